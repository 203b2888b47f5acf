/- zbb of the proof, merged: Math18 Math27 Math19 Math20 Math28 MapB. -/
import Derived.Test.YtdmipnnfoolelagGreatDoorKTG
import Derived.Test.YtdmipnnfoolelagGreatDoorKTF
import Derived.Test.YtdmipnnfoolelagGreatDoorKTA
import Derived.Maps.OwnSet
import Derived.Maps.OwnOps

namespace Go.Mk
open Go Go.RowKit

structure Done (l:List (List Cl)) (p:List Rq):Prop where
 all:∀ i,i < l.length->zaA p i=(List.range (l.getD i []).length).map (zax l i)
 past:zg5 l p
 at_:∀ (j:Nat) (r:Rq),p[j]?=some r->∃ i:Nat,i < l.length/\r=zax l i (zaA (p.take j) i).length/\(zaA (p.take j) i).length < (l.getD i []).length

theorem zsT {l:List (List Cl)} {m:Mc} {ks:List Nat} {bz:Option Nat} (h:MInv l m ks bz) (hi:zdE m=true):Done l m.store.past:=by
 refine ⟨fun i hil=>?_,h.past,fun j r hr=>ztJ h hr⟩
 obtain ⟨c,hc⟩:=zkQ h hil
 have ci:=h.clients i c hc
 obtain ⟨-,h2,-⟩:=zhf h hi hc
 rw [<- h2]
 exact ci.done

def zje (p:List Rq):List Rp:=(zdz (p.map Rq.call)).2.map fun x=>⟨x.1,x.2⟩
theorem reps_snoc (p:List Rq) (r:Rq):zje (p++[r])=zje p++[(zaN (names p) r.call).2]:=by
 unfold zje names
 rw [List.map_append,List.map_cons,List.map_nil,zfv]
 simp [zfZ]
theorem zkJ:names []=[]:=rfl

theorem zjq {X:Type} {P:List X->Prop} (h0:P []) (hs:∀ l x,P l->P (l++[x])):∀ l,P l:=by
 intro l
 have:∀ n,n<=l.length->P (l.take n):=by
  intro n
  induction n with
  | zero=>intro _; simpa using h0
  | succ n ih =>
   intro hn
   rw [List.take_add_one,List.getElem?_eq_getElem (by omega)]
   exact hs _ _ (ih (by omega))
 have:=this l.length (Nat.le_refl _)
 rwa [List.take_length] at this

theorem sumTo_pick (g:Nat->Nat) (k c:Nat):∀ n,sumTo (fun i=>g i+if k=i then c else 0) n=sumTo g n+if k < n then c else 0
 | 0=>by simp [sumTo]
 | n+1=>by
  unfold sumTo
  rw [sumTo_pick g k c n]
  by_cases h1:k < n
  ·rw [if_pos h1,if_neg (by omega),if_pos (by omega)]; omega
  ·rw [if_neg h1]
   by_cases h2:k=n
   ·rw [if_pos h2,if_pos (by omega)]; omega
   ·rw [if_neg h2,if_neg (by omega)]; omega

theorem zjm {n:Nat} {p:List Rq} (hp:∀ r ∈ p,∃ i:Nat,i < n/\r.client=(i:Int)) (f:Rq->Bool):sumTo (fun i=>(zaA p i).countP f) n=p.countP f:=by
 induction p with
 | nil =>
  have:sumTo (fun i=>(zaA [] i).countP f) n=sumTo (fun _=>0) n:=rfl
  rw [this]
  clear this hp
  induction n with
  | zero=>rfl
  | succ n ih=>unfold sumTo; rw [ih]; rfl
 | cons r p ih =>
  obtain ⟨k,hk,hc⟩:=hp r (by simp)
  have e:(fun i=>(zaA (r::p) i).countP f)=fun i=>(zaA p i).countP f+if k=i then (if f r then 1 else 0) else 0:=by
   funext i
   rw [mine_cons,hc]
   by_cases hi:k=i
   ·subst hi; rw [if_pos rfl,if_pos rfl,List.countP_cons]
   ·rw [if_neg (by omega),if_neg hi]; rfl
  rw [e,sumTo_pick,if_pos hk,ih (fun x hx=>hp x (by simp [hx])),List.countP_cons]

theorem zrb {n:Nat}:∀ {p:List Rq},(∀ r ∈ p,∃ i:Nat,i < n/\r.client=(i:Int))->∀ (f:Rp->Bool),sumTo (fun i=>(told p i).countP f) n=(zje p).countP f:=by
 intro p
 refine zjq (P:=fun p=>(∀ r ∈ p,∃ i:Nat,i < n/\r.client=(i:Int))->∀ (f:Rp->Bool),sumTo (fun i=>(told p i).countP f) n=(zje p).countP f) ?_ ?_ p
 ·intro hx f
  have:sumTo (fun i=>(told [] i).countP f) n=sumTo (fun _=>0) n:=rfl
  rw [this]
  clear this hx
  induction n with
  | zero=>rfl
  | succ n ih=>unfold sumTo; rw [ih]; rfl
 ·intro p r ih hp f
  obtain ⟨k,hk,hc⟩:=hp r (by simp)
  have e:(fun i=>(told (p++[r]) i).countP f)=fun i=>(told p i).countP f+if k=i then (if f (zaN (names p) r.call).2 then 1 else 0) else 0:=by
   funext i
   rw [told_snoc,hc]
   by_cases hi:k=i
   ·subst hi; rw [if_pos rfl,if_pos rfl,List.countP_append]; simp
   ·rw [if_neg (by omega),if_neg hi]; rfl
  rw [e,sumTo_pick,if_pos hk,ih (fun x hx=>hp x (by simp [hx])),reps_snoc,List.countP_append]
  simp

theorem zo1 {l:List (List Cl)} {p:List Rq} (h:zg5 l p):∀ r ∈ p,∃ i:Nat,i < l.length/\r.client=(i:Int):=fun r hr=>by
 obtain ⟨i,t,hi,-,rfl⟩:=h r hr
 exact ⟨i,hi,rfl⟩

theorem zlG {l:List (List Cl)} {p:List Rq} (hd:Done l p) {P:List Rq->Prop} (h0:P []) (hs:∀ q i,P q->i < l.length->(zaA q i).length < (l.getD i []).length->P (q++[zax l i (zaA q i).length])):P p:=by
 have:∀ n,n<=p.length->P (p.take n):=by
  intro n
  induction n with
  | zero=>intro _; simpa using h0
  | succ n ih =>
   intro hn
   have hg:p[n]?=some (p[n]'(by omega)):=List.getElem?_eq_getElem (by omega)
   obtain ⟨i,hi,e,ht⟩:=hd.at_ n _ hg
   rw [List.take_add_one,hg,e]
   exact hs _ i (ih (by omega)) hi ht
 have:=this p.length (Nat.le_refl _)
 rwa [List.take_length] at this

theorem zhX (l:List (List Cl)) (q:List Rq) (i t k:Nat):(zaA (q++[zax l i t]) k).length=(zaA q k).length+if i=k then 1 else 0:=by
 rw [zgp]
 by_cases h0:i=k
 ·subst h0; rw [if_pos (show (zax l i t).client=(i:Int) from rfl),if_pos rfl]; simp
 ·rw [if_neg (show ¬ (zax l i t).client=(k:Int) from fun h=>h0 (by have h':(i:Int)=(k:Int):=h; omega)),if_neg h0]; rfl

theorem zoJ {X:Type} (c:List X) (z:X):(List.range c.length).map (fun t=>c.getD t z)=c:=by
 refine List.ext_getElem (by simp) fun k k1 k2=>?_
 simp [k2]
theorem zde {l:List (List Cl)} {p:List Rq} (hd:Done l p) {i:Nat} (hi:i < l.length):(zaA p i).map Rq.call=l.getD i []:=by
 rw [hd.all i hi,List.map_map]
 exact zoJ (l.getD i []) zeroCl
theorem zjG {n:Nat} {p:List Rq} (hp:∀ r ∈ p,∃ i:Nat,i < n/\r.client=(i:Int)):sumTo (fun i=>(zaA p i).length) n=p.length:=by
 have:=zjm hp (fun _=>true)
 simpa using this
theorem zny {f:Nat->Nat} {n c:Nat} (h:∀ i,i < n->f i=c):sumTo f n=n * c:=by
 induction n with
 | zero=>simp [sumTo]
 | succ n ih=>unfold sumTo; rw [ih (fun i hi=>h i (by omega)),h n (by omega),Nat.add_mul]; omega

/-! zc8 counts once. -/

def putC:Cl:=⟨1,9,0,0⟩
def addC:Cl:=⟨4,9,0,1⟩
def zby (k e:Nat):List (List Cl):=(putC::List.replicate e addC)::List.replicate (k - 1) (List.replicate e addC)
def zeI (r:Rq):Bool:=r.call.kind == 4
def isMiss (r:Rp):Bool:=r.err == 6

theorem zs8:zaN [] putC=([(9,0)],⟨0,0⟩):=rfl
theorem do_add0:zaN [] addC=([],⟨6,0⟩):=rfl
theorem zuq (s:Int) (h0:0<=s) (h1:s<=1000):zaN [(9,s)] addC=([(9,s+1)],⟨0,s+1⟩):=by
 have ha:at1 [(9,s)] addC.name=0:=by simp [at1,addC,List.findIdx_cons]
 unfold zaN
 rw [ha]
 simp [addC,num,put1]
 omega

theorem zsy {k e i t:Nat} (hi:i < (zby k e).length) (ht:t < ((zby k e).getD i []).length):(zax (zby k e) i t).call=if i=0/\t=0 then putC else addC:=by
 unfold zby at *
 unfold zax
 cases i with
 | zero =>
  cases t with
  | zero=>rfl
  | succ t =>
   rw [if_neg (by simp)]
   simp at ht
   simp [ht]
 | succ i =>
  rw [if_neg (by simp)]
  simp at hi
  have hg:((putC::List.replicate e addC)::List.replicate (k - 1) (List.replicate e addC)).getD (i+1) []=List.replicate e addC:=by
   simp [hi]
  simp only [hg] at ht ⊢
  simp at ht
  simp [ht]

theorem zqv {k e:Nat} {p:List Rq} (hd:Done (zby k e) p) :
  (p.length<=1000)->((zaA p 0).length=0->names p=[]/\(zje p).countP isMiss=p.countP zeI) /\
   (0 < (zaA p 0).length->∃ s:Nat,names p=[(9,(s:Int))]/\s<=p.countP zeI/\s+(zje p).countP isMiss=p.countP zeI):=by
 refine zlG hd (P:=fun p=>p.length<=1000->((zaA p 0).length=0->names p=[]/\(zje p).countP isMiss=p.countP zeI) /\
   (0 < (zaA p 0).length->∃ s:Nat,names p=[(9,(s:Int))]/\s<=p.countP zeI/\s+(zje p).countP isMiss=p.countP zeI)) ?_ ?_
 ·intro _
  exact ⟨fun _=>⟨rfl,rfl⟩,fun h=>by simp [zhh] at h⟩
 ·intro q i ih hi ht hlen
  have ih:=ih (by simp at hlen; omega)
  have hql:q.length<=999:=by simp at hlen; omega
  have hcq:q.countP zeI<=q.length:=List.countP_le_length
  have hc:=zsy hi ht
  rw [names_snoc,reps_snoc,List.countP_append,List.countP_append]
  have hml:=zhX (zby k e) q i (zaA q i).length 0
  rw [hml]
  by_cases hz:(zaA q 0).length=0
  ·obtain ⟨hn,hm⟩:=ih.1 hz
   rw [hn]
   by_cases h0:i=0
   ·subst h0
    rw [if_pos ⟨rfl,hz⟩] at hc
    have hadd:zeI (zax (zby k e) 0 (zaA q 0).length)=false:=by unfold zeI; rw [hc]; rfl
    rw [hc,zs8]
    refine ⟨fun h=>by simp at h,fun _=>⟨0,rfl,by omega,?_⟩⟩
    simp [hadd,isMiss,hm]
   ·rw [if_neg (fun h=>h0 h.1)] at hc
    have hadd:zeI (zax (zby k e) i (zaA q i).length)=true:=by unfold zeI; rw [hc]; rfl
    rw [hc,do_add0,if_neg h0]
    refine ⟨fun _=>⟨rfl,?_⟩,fun h=>by omega⟩
    simp [hadd,isMiss,hm]
  ·obtain ⟨s,hn,hs,hm⟩:=ih.2 (by omega)
   have hc2:(zax (zby k e) i (zaA q i).length).call=addC:=by
    rw [hc,if_neg]
    rintro ⟨rfl,h⟩
    exact hz h
   have hadd:zeI (zax (zby k e) i (zaA q i).length)=true:=by unfold zeI; rw [hc2]; rfl
   rw [hn,hc2,zuq s (by omega) (by omega)]
   refine ⟨fun h=>by omega,fun _=>⟨s+1,by simp,?_,?_⟩⟩
   ·simp [hadd]; omega
   ·simp [hadd,isMiss] at hm ⊢; omega

theorem zg6 {k e i:Nat} (hi:i < (zby k e).length):(zby k e).getD i []=if i=0 then putC::List.replicate e addC else List.replicate e addC:=by
 unfold zby at *
 cases i with
 | zero=>rfl
 | succ i =>
  simp at hi
  simp [hi]
theorem zks {k e:Nat} (hk:1<=k):(zby k e).length=k:=by unfold zby; simp; omega

theorem zpK {k e:Nat} (hk:1<=k) (hk3:k<=3) (he:e<=7) {p:List Rq} (hd:Done (zby k e) p) :
  ∃ s:Nat,names p=[(9,(s:Int))]/\s+sumTo (fun i=>(told p i).countP isMiss) k=k * e:=by
 have hl:=zks (e:=e) hk
 have hin:=zo1 hd.past
 rw [hl] at hin
 have hlen:p.length<=24:=by
  rw [<- zjG hin]
  refine Nat.le_trans (zgQ (b:=8) fun i hi=>?_) (by omega)
  have:=zde hd (i:=i) (by omega)
  have e1:=congrArg List.length this
  rw [List.length_map,zg6 (by omega)] at e1
  split at e1 <;> simp at e1 <;> omega
 have h0:0 < (zaA p 0).length:=by
  have e1:=congrArg List.length (zde hd (i:=0) (by omega))
  rw [List.length_map,zg6 (by omega),if_pos rfl] at e1
  simp at e1
  omega
 obtain ⟨s,hn,-,hs⟩:=(zqv hd (by omega)).2 h0
 refine ⟨s,hn,?_⟩
 rw [zrb hin,hs,<- zjm hin]
 refine zny fun i hi=>?_
 have e1:(zaA p i).countP zeI=((zaA p i).map Rq.call).countP (fun c=>c.kind == 4):=by rw [List.countP_map]; rfl
 rw [e1,zde hd (by omega),zg6 (by omega)]
 split
 ·rw [List.countP_cons,List.countP_replicate]; rfl
 ·rw [List.countP_replicate]; rfl

/-! Nothing is lost in turning. -/

def zd1:Cl:=⟨6,1,2,0⟩
def ze7 (a b:Int) (k:Nat):List (List Cl):=[⟨1,1,0,a⟩::⟨1,2,0,b⟩::List.replicate k zd1,List.replicate k zd1]

theorem zs6 {a b:Int} {k i t:Nat} (hi:i < (ze7 a b k).length) (ht:t < ((ze7 a b k).getD i []).length) :
  (zax (ze7 a b k) i t).call=if i=0/\t=0 then ⟨1,1,0,a⟩ else if i=0/\t=1 then ⟨1,2,0,b⟩ else zd1:=by
 unfold ze7 at *
 unfold zax
 match i,hi with
 | 0,_ =>
  match t with
  | 0=>rfl
  | 1=>rfl
  | t+2 =>
   rw [if_neg (by simp),if_neg (by simp)]
   simp at ht
   simp [ht]
 | 1,_ =>
  rw [if_neg (by simp),if_neg (by simp)]
  simp at ht
  simp [ht]

theorem zkW (a:Int):zaN [] zd1=([],⟨6,0⟩)/\zaN [(1,a)] zd1=([(1,a)],⟨6,0⟩):=by
 refine ⟨rfl,?_⟩
 have h1:at1 [(1,a)] 1=0:=by simp [at1,List.findIdx_cons]
 have h2:at1 [(1,a)] 2=1:=by simp [at1,List.findIdx_cons]
 unfold zaN zd1
 simp [h1,h2]
theorem zhm (x y:Int):(zaN [(1,x),(2,y)] zd1).1=[(1,y),(2,x)]:=by
 have h1:at1 [(1,x),(2,y)] 1=0:=by simp [at1,List.findIdx_cons]
 have h2:at1 [(1,x),(2,y)] 2=1:=by simp [at1,List.findIdx_cons]
 unfold zaN zd1
 simp [h1,h2,put1,num]
theorem zpL (a:Int):(zaN [] ⟨1,1,0,a⟩).1=[(1,a)]:=by simp [zaN,at1]
theorem zrT (a b:Int):(zaN [(1,a)] ⟨1,2,0,b⟩).1=[(1,a),(2,b)]:=by
 have h2:at1 [(1,a)] 2=1:=by simp [at1,List.findIdx_cons]
 simp [zaN,h2]

theorem zrD {a b:Int} {k:Nat} {p:List Rq} (hd:Done (ze7 a b k) p):names p=[(1,a),(2,b)]∨names p=[(1,b),(2,a)]:=by
 have h2:2<=(zaA p 0).length:=by
  have e1:=congrArg List.length (zde hd (i:=0) (by simp [ze7]))
  rw [List.length_map] at e1
  simp [ze7] at e1
  omega
 suffices h:((zaA p 0).length=0->names p=[])/\((zaA p 0).length=1->names p=[(1,a)])/\(2<=(zaA p 0).length->names p=[(1,a),(2,b)]∨names p=[(1,b),(2,a)]) from h.2.2 h2
 clear h2
 refine zlG hd (P:=fun p=>((zaA p 0).length=0->names p=[])/\((zaA p 0).length=1->names p=[(1,a)])/\(2<=(zaA p 0).length->names p=[(1,a),(2,b)]∨names p=[(1,b),(2,a)])) ?_ ?_
 ·refine ⟨fun _=>rfl,fun h=>?_,fun h=>?_⟩ <;> simp [zhh] at h
 ·intro q i ih hi ht
  obtain ⟨i0,i1,i2⟩:=ih
  have hc:=zs6 hi ht
  rw [zhX,names_snoc,hc]
  by_cases h0:i=0
  ·subst h0
   rw [if_pos rfl]
   by_cases z0:(zaA q 0).length=0
   ·rw [if_pos ⟨rfl,z0⟩,i0 z0]
    exact ⟨fun h=>by omega,fun _=>zpL a,fun h=>by omega⟩
   ·rw [if_neg (fun h=>z0 h.2)]
    by_cases z1:(zaA q 0).length=1
    ·rw [if_pos ⟨rfl,z1⟩,i1 z1]
     exact ⟨fun h=>by omega,fun h=>by omega,fun _=>.inl (zrT a b)⟩
    ·rw [if_neg (fun h=>z1 h.2)]
     refine ⟨fun h=>by omega,fun h=>by omega,fun _=>?_⟩
     rcases i2 (by omega) with h | h
     ·rw [h]; exact .inr (zhm a b)
     ·rw [h]; exact .inl (zhm b a)
  ·rw [if_neg h0,if_neg (fun h=>h0 h.1),if_neg (fun h=>h0 h.1)]
   refine ⟨fun h=>?_,fun h=>?_,fun h=>?_⟩
   ·rw [i0 (by omega),(zkW a).1]
   ·rw [i1 (by omega),(zkW a).2]
   ·rcases i2 (by omega) with h | h
    ·rw [h]; exact .inr (zhm a b)
    ·rw [h]; exact .inl (zhm b a)

open Go Go.RowKit

structure SzM (m:Mc):Prop where
 undo:m.store.undo.length+m.server.plan.length<=3
 answers:m.store.answers.length<=m.store.past.length

theorem zua (l:List (List Cl)):SzM (zcJ l):=⟨(by decide:(0:Nat)+0<=3),Nat.le_refl _⟩
theorem zq1 {s:St} {v:Sv} (h1:s.undo.length+v.plan.length<=3) (h2:s.answers.length<=s.past.length) (hc:v.busy=false->s.undo=[]) :
  (zaI s v).1.undo.length+(zaI s v).2.1.plan.length<=3/\(zaI s v).1.answers.length<=(zaI s v).1.past.length:=by
 unfold zaI
 split
 ·split
  ·rename_i p l hp
   obtain ⟨w1,w2,w3⟩:=znN s p
   rw [hp] at h1
   simp only [List.length_cons] at h1
   exact ⟨by simp only []; omega,by simp only [w2,w3]; exact h2⟩
  ·have:=zlL s.answers ⟨v.now.client,v.now.token,v.says⟩
   refine ⟨by simp [zdT,zbQ],?_⟩
   simp only [zdT,List.length_append,List.length_cons,List.length_nil]
   omega
 ·rename_i hb
  have hu:=hc (by simpa using hb)
  split
  ·exact ⟨h1,h2⟩
  ·dsimp only
   have hp:∀ c,s.undo.length+(zbC (zbh s.cells) c).length<=3:=fun c=>by
    rw [hu]
    simpa using ziR (zbh s.cells) c
   repeat' split
   all_goals first | exact ⟨h1,h2⟩ | exact ⟨hp _,h2⟩
theorem zqP (v:Sv) (b:List UInt8):(zbY v b).1.plan=v.plan:=by
 unfold zbY
 split <;> rfl
theorem zpj {m:Mc} (hs:SzM m):SzM (zbO m):=by
 unfold zbO
 split
 ·exact hs
 ·split
  ·exact ⟨hs.undo,hs.answers⟩
  ·exact ⟨(by decide:(0:Nat)+0<=3),hs.answers⟩
theorem ztX {l:List (List Cl)} {m:Mc} {ks:List Nat} {bz:Option Nat} (h:MInv l m ks bz) (hs:SzM m) (kind n:Int):SzM (doM m kind n).1:=by
 unfold doM
 split
 ·split
  ·exact hs
  ·dsimp only
   split
   ·exact hs
   ·split
    ·split
     ·exact hs
     ·exact ⟨by simp only [zqP]; exact hs.undo,hs.answers⟩
    ·exact ⟨hs.undo,hs.answers⟩
 ·split
  ·split
   ·exact hs
   ·rename_i hu
    dsimp only
    have hu:m.up=true:=by simpa using hu
    obtain ⟨z1,z2⟩:=zq1 hs.undo hs.answers fun hb=>h.clean hu (by
     have hz:=h.busy
     rw [hb] at hz
     cases bz with
     | none=>rfl
     | some i=>cases hz)
    repeat' split
    all_goals first | exact hs | exact ⟨z1,z2⟩
  ·split
   ·unfold zf1
    split
    ·exact hs
    ·split
     ·exact hs
     ·exact ⟨Nat.le_trans (Nat.add_le_add_left (Nat.zero_le _) _) hs.undo,hs.answers⟩
   ·split
    ·exact zpj hs
    ·exact hs
theorem zpr {l:List (List Cl)} (hl:zaF l):∀ (steps:List (Int×Int)) {m:Mc} {ks:List Nat} {bz:Option Nat},MInv l m ks bz->SzM m->SzM (zcL m steps)
 | [],_,_,_,_,hs=>hs
 | p::q,m,ks,bz,h,hs=>by
  obtain ⟨ks1,bz1,h1⟩:=zom hl h p.1 p.2
  exact zpr hl q h1 (ztX h hs p.1 p.2)
theorem zug {l:List (List Cl)} (hl:zaF l) (steps:List (Int×Int)):SzM (zcL (zcJ l) steps):=by
 obtain ⟨ks,bz,h⟩:=zpw hl []
 exact zpr hl steps (m:=zcJ l) h (zua l)

theorem zsG {l:List (List Cl)} (hl:zaF l) {m:Mc} {ks:List Nat} {bz:Option Nat} (h:MInv l m ks bz) (hs:SzM m):SizeM m 24:=by
 have hp:m.store.past.length<=24:=by
  have h1:=zjm (n:=l.length) (p:=m.store.past) (fun r hr=>by
   obtain ⟨i,t,hi,_,rfl⟩:=h.past r hr
   exact ⟨i,hi,rfl⟩) (fun _=>true)
  rw [List.countP_true] at h1
  have h2:sumTo (fun i=>(zaA m.store.past i).length) l.length<=l.length * 8:=zgQ fun i hi=>by
   obtain ⟨c,hc⟩:∃ c,m.clients[i]?=some c:=⟨m.clients[i]'(by rw [h.nc]; exact hi),List.getElem?_eq_getElem _⟩
   have h3:=(h.clients i c hc).most
   have h4:(l.getD i []).length<=8:=by
    rw [List.getD_eq_getElem?_getD,List.getElem?_eq_getElem hi]
    exact (hl.2 _ (List.getElem_mem hi)).1
   omega
  have h5:=hl.1
  have h6:m.store.past.length<=l.length * 8:=by
   rw [<- h1]
   exact h2
  omega
 refine ⟨?_,?_,hp,?_,fun c hc=>?_⟩
 ·have:=hs.undo; omega
 ·have:=hs.answers; omega
 ·rw [h.box,List.length_map]
  have:=zhc h.nodup h.ksl
  have:=hl.1
  omega
 ·obtain ⟨i,hi⟩:=List.mem_iff_getElem?.1 hc
  have ci:=h.clients i c hi
  have h3:=ci.most
  have h4:(l.getD i []).length<=8:=by
   rw [List.getD_eq_getElem?_getD]
   cases e:l[i]? with
   | none=>exact Nat.zero_le _
   | some y=>exact (hl.2 y (List.mem_of_getElem? e)).1
  have h5:=ci.step
  refine ⟨by omega,?_⟩
  cases ci.phase with
  | rest _ _ _ e _=>rw [e]; exact Nat.zero_le _
  | wait _ _ _ _ e _=>rw [e]; exact Nat.zero_le _
  | work _ _ _ _ e _ _=>rw [e]; exact Nat.zero_le _
  | lost _ _ _ e _ _=>rw [e]; exact Nat.zero_le _
  | hear _ _ _ _ e=>rw [e]; exact (by decide:(1:Nat)<=24)

structure GzM (l:List (List Cl)) (m:Mc):Prop where
 right:zaF l
 inv:∃ ks bz,MInv l m ks bz
 sz:SzM m
theorem GzM.size {l:List (List Cl)} {m:Mc} (h:GzM l m):SizeM m 24:=by
 obtain ⟨h1,⟨ks,bz,h2⟩,h3⟩:=h
 exact zsG h1 h2 h3
theorem zrv {l:List (List Cl)} {m:Mc} (h:GzM l m) (kind n:Int):GzM l (doM m kind n).1:=by
 obtain ⟨h1,⟨ks,bz,h2⟩,h3⟩:=h
 exact ⟨h1,zom h1 h2 kind n,ztX h2 h3 kind n⟩
theorem ztb {l:List (List Cl)} {m:Mc} (h:GzM l m):GzM l (zbO m):=by
 obtain ⟨h1,⟨ks,bz,h2⟩,h3⟩:=h
 exact ⟨h1,⟨_,_,(zhp h2).choose_spec.choose_spec⟩,zpj h3⟩
theorem zls {l:List (List Cl)} (hl:zaF l) (steps:List (Int×Int)):GzM l (zcL (zcJ l) steps):=⟨hl,zpw hl steps,zug hl steps⟩
theorem zpt {l:List (List Cl)}:∀ (q:List Nat) {m:Mc},GzM l m->GzM l (q.foldl (fun m (n:Nat)=>(doM m 1 (n:Int)).1) m)
 | [],_,h=>h
 | n::q,_,h=>zpt q (zrv h 1 (n:Int))
theorem zmV {l:List (List Cl)} {m:Mc} (h:GzM l m):GzM l (roundM m):=zrv (zpt _ (ztb h)) 2 0
theorem zk7 {l:List (List Cl)}:∀ (n:Nat) {m:Mc},GzM l m->GzM l (zba n m).1
 | 0,_,h=>h
 | n+1,_,h=>by
  unfold zba
  split
  ·exact h
  ·exact zk7 n (zmV h)

open Go Go.RowKit

def zd2 (k i:Nat):Cl:=⟨1,((1+100 * k+i:Nat):Int),0,(i:Int)⟩
def zch (n m:Nat):List (List Cl):=[(List.range n).map (zd2 0),(List.range m).map (zd2 1)]

theorem zm0 {n m i:Nat} (hn:n<=8) (hm:m<=8):((zch n m).getD i []).length<=8:=by
 unfold zch
 match i with
 | 0=>simpa using hn
 | 1=>simpa using hm
 | _+2=>simp
theorem zsS {n m i t:Nat} (hi:i < (zch n m).length) (ht:t < ((zch n m).getD i []).length):(zax (zch n m) i t).call=zd2 i t:=by
 unfold zch at *
 unfold zax
 match i,hi with
 | 0,_ =>
  simp at ht
  simp [ht]
 | 1,_ =>
  simp at ht
  simp [ht]

theorem ztm {l:List (Int×Int)} {k i:Nat} (h:∀ y ∈ l.map Prod.fst,y≠((1+100 * k+i:Nat):Int)):zaN l (zd2 k i)=if 5<=l.length then (l,⟨9,0⟩) else (l++[(((1+100 * k+i:Nat):Int),(i:Int))],⟨0,0⟩):=by
 have h1:at1 l ((1+100 * k+i:Nat):Int)=l.length:=ziM fun j hj e=>by
  refine h _ ?_ e
  rw [List.getD_eq_getElem?_getD,List.getElem?_eq_getElem hj]
  exact List.mem_map.2 ⟨l[j],List.getElem_mem hj,rfl⟩
 unfold zaN zd2
 simp only []
 rw [if_neg (by decide),if_pos trivial,h1,if_neg (by omega)]

structure Room (q:List Rq):Prop where
 len:(names q).length=min 5 q.length
 from_:∀ y ∈ (names q).map Prod.fst,∃ i t:Nat,i < 2/\t < (zaA q i).length/\y=((1+100 * i+t:Nat):Int)
 most:∀ i,(zaA q i).length<=8
 told:∀ k t:Nat,k < 2->t < (zaA q k).length->(((told q k).getD t ⟨0,0⟩).err=0/\((1+100 * k+t:Nat):Int) ∈ (names q).map Prod.fst)∨(((told q k).getD t ⟨0,0⟩).err=9/\((1+100 * k+t:Nat):Int) ∉ (names q).map Prod.fst)

theorem zra {n m:Nat} (hn:n<=8) (hm:m<=8) {p:List Rq} (hd:Done (zch n m) p):Room p:=by
 refine zlG hd (P:=Room) ?_ ?_
 ·refine ⟨rfl,fun y hy=>by simp [zkJ] at hy,fun i=>by simp [zhh],fun k t _ ht=>by simp [zhh] at ht⟩
 ·intro q i ih hi ht
  have hc:=zsS hi ht
  have hl8:=zm0 (i:=i) hn hm
  have hi2:i < 2:=hi
  have hnew:∀ y ∈ (names q).map Prod.fst,y≠((1+100 * i+(zaA q i).length:Nat):Int):=fun y hy e=>by
   obtain ⟨k,t,hk,htl,rfl⟩:=ih.from_ y hy
   have:=ih.most k
   have:=ih.most i
   have e2:1+100 * k+t=1+100 * i+(zaA q i).length:=by omega
   by_cases hki:k=i
   ·subst hki; omega
   ·omega
  have hput:=ztm hnew
  rw [<- hc] at hput
  have hms:=fun k=>zhX (zch n m) q i (zaA q i).length k
  have hns:=names_snoc q (zax (zch n m) i (zaA q i).length)
  have hmost:∀ k,(zaA (q++[zax (zch n m) i (zaA q i).length]) k).length<=8:=fun k=>by
   rw [hms]
   have:=ih.most k
   by_cases hik:i=k
   ·subst hik; rw [if_pos rfl]; omega
   ·rw [if_neg hik]; omega
  have htl:∀ k t,t < (zaA q k).length->(told (q++[zax (zch n m) i (zaA q i).length]) k).getD t ⟨0,0⟩=(told q k).getD t ⟨0,0⟩:=fun k t h=>by
   rw [told_snoc]
   split
   ·rw [List.getD_eq_getElem?_getD,List.getElem?_append_left (by rw [zdB]; exact h),<- List.getD_eq_getElem?_getD]
   ·rfl
  have htn:(told (q++[zax (zch n m) i (zaA q i).length]) i).getD (zaA q i).length ⟨0,0⟩=(zaN (names q) (zax (zch n m) i (zaA q i).length).call).2:=by
   rw [told_snoc,if_pos (show (zax (zch n m) i (zaA q i).length).client=(i:Int) from rfl),List.getD_eq_getElem?_getD,List.getElem?_append_right (by rw [zdB]; exact Nat.le_refl _),zdB]
   simp
  have hcase:∀ k t,t < (zaA (q++[zax (zch n m) i (zaA q i).length]) k).length->t < (zaA q k).length∨(k=i/\t=(zaA q i).length):=fun k t h=>by
   rw [hms] at h
   by_cases hik:i=k
   ·subst hik; rw [if_pos rfl] at h; by_cases h2:t < (zaA q i).length
    ·exact .inl h2
    ·exact .inr ⟨rfl,by omega⟩
   ·rw [if_neg hik] at h; exact .inl (by omega)
  by_cases h5:5<=(names q).length
  ·rw [if_pos h5] at hput
   rw [hput] at hns htn
   have hq5:5<=q.length:=by have:=ih.len; omega
   refine ⟨?_,?_,hmost,?_⟩
   ·rw [hns,ih.len]; simp; omega
   ·rw [hns]
    intro y hy
    obtain ⟨k,t,hk,h,e⟩:=ih.from_ y hy
    exact ⟨k,t,hk,by rw [hms]; omega,e⟩
   ·rw [hns]
    intro k t hk h
    rcases hcase k t h with h | ⟨rfl,rfl⟩
    ·rw [htl k t h]; exact ih.told k t hk h
    ·rw [htn]; exact .inr ⟨rfl,fun hm=>hnew _ hm rfl⟩
  ·rw [if_neg h5] at hput
   rw [hput] at hns htn
   have hq5:q.length < 5:=by have:=ih.len; omega
   have hmem:∀ y:Int,y ∈ (names (q++[zax (zch n m) i (zaA q i).length])).map Prod.fst↔y ∈ (names q).map Prod.fst∨y=((1+100 * i+(zaA q i).length:Nat):Int):=fun y=>by
    rw [hns,List.map_append,List.mem_append]
    simp
   refine ⟨?_,?_,hmost,?_⟩
   ·rw [hns]; simp [ih.len]; omega
   ·intro y hy
    rcases (hmem y).1 hy with h | rfl
    ·obtain ⟨k,t,hk,h,e⟩:=ih.from_ y h
     exact ⟨k,t,hk,by rw [hms]; omega,e⟩
    ·exact ⟨i,(zaA q i).length,hi2,by rw [hms,if_pos rfl]; omega,rfl⟩
   ·intro k t hk h
    rcases hcase k t h with h | ⟨rfl,rfl⟩
    ·rw [htl k t h]
     rcases ih.told k t hk h with ⟨h1,h2⟩ | ⟨h1,h2⟩
     ·exact .inl ⟨h1,(hmem _).2 (.inl h2)⟩
     ·refine .inr ⟨h1,fun hm=>?_⟩
      rcases (hmem _).1 hm with h3 | h3
      ·exact h2 h3
      ·have:=ih.most k
       have:=ih.most i
       have e2:1+100 * k+t=1+100 * i+(zaA q i).length:=by omega
       by_cases hki:k=i
       ·subst hki; omega
       ·omega
    ·rw [htn]; exact .inl ⟨rfl,(hmem _).2 (.inr rfl)⟩

theorem zqF {n m:Nat} {p:List Rq} (hd:Done (zch n m) p):p.length=n+m:=by
 have hin:=zo1 hd.past
 have hl:(zch n m).length=2:=rfl
 rw [hl] at hin
 rw [<- zjG hin]
 have e0:=congrArg List.length (zde hd (i:=0) (by simp [zch]))
 have e1:=congrArg List.length (zde hd (i:=1) (by simp [zch]))
 rw [List.length_map] at e0 e1
 simp [zch] at e0 e1
 simp [sumTo,e0,e1]

open Go Go.RowKit

def look (l:List (Int×Int)) (x:Int):Option Int:=if at1 l x < l.length then some (num l (at1 l x)) else none

theorem zeY {l:List (Int×Int)} (h:Okn l) (x v:Int):look l x=some v↔∃ k,k < l.length/\l.getD k (0,0)=(x,v):=by
 unfold look
 constructor
 ·intro e
  by_cases hk:at1 l x < l.length
  ·rw [if_pos hk] at e
   injection e with e
   exact ⟨_,hk,Prod.ext (zec hk) e⟩
  ·rw [if_neg hk] at e; cases e
 ·rintro ⟨k,hk,e⟩
  have ha:at1 l x=k:=znS hk (by rw [e]) (fun j hj e2=>by
   have:=h.uni (i:=j) (j:=k) (by omega) hk (by rw [e2,e])
   omega)
  rw [ha,if_pos hk]
  unfold num
  rw [e]
theorem zkY {l:List (Int×Int)} {x:Int}:look l x=none↔¬ at1 l x < l.length:=by
 unfold look
 split <;> simp_all
theorem zkr {l:List (Int×Int)} {x:Int} (h:at1 l x < l.length):look l x=some (num l (at1 l x)):=if_pos h

def ziz (f:Int->Option Int) (x:Int) (v:Option Int):Int->Option Int:=fun y=>if y=x then v else f y

def doF (f:Int->Option Int) (c:Cl):(Int->Option Int)×Rp :=
 if c.kind=1 then (ziz f c.name (some c.n),⟨0,(f c.name).getD 0⟩)
 else match f c.name with
 | none=>(f,⟨6,0⟩)
 | some v =>
  if c.kind=2 then (f,⟨0,v⟩)
  else if c.kind=3 then (ziz f c.name none,⟨0,v⟩)
  else if ¬ (-1073741824<=v+c.n/\v+c.n<=1073741824) then (f,⟨3,0⟩) else (ziz f c.name (some (v+c.n)),⟨0,v+c.n⟩)

theorem zlQ {a b:Option Int} (h:∀ v,a=some v↔b=some v):a=b:=by
 cases a with
 | none=>cases b with
  | none=>rfl
  | some v=>exact absurd ((h v).2 rfl) (by simp)
 | some v=>exact ((h v).1 rfl).symm

theorem zkB {l:List (Int×Int)} (h:Okn l) {x n:Int} (hx:at1 l x < l.length) (h1:-1073741824<=n) (h2:n<=1073741824):look (put1 l (at1 l x) n)=ziz (look l) x (some n):=by
 have hok:=zf6 h hx h1 h2
 funext y
 unfold ziz
 refine zlQ fun v=>?_
 rw [zeY hok]
 by_cases hy:y=x
 ·subst hy
  rw [if_pos rfl]
  constructor
  ·rintro ⟨k,hk,e⟩
   rw [zay] at hk
   have e1:=congrArg Prod.fst e
   rw [zdN _ _ _ _ hx] at e1
   have hkk:=h.uni hk hx (by rw [e1,zec hx])
   have e2:=congrArg Prod.snd e
   rw [zen _ _ _ _ hx,if_pos hkk.symm] at e2
   rw [e2]
  ·intro e
   injection e with e
   refine ⟨at1 l y,by rw [zay]; exact hx,?_⟩
   rw [zcx _ _ _ _ hx,if_pos rfl,zec hx,e]
 ·rw [if_neg hy,zeY h]
  constructor
  ·rintro ⟨k,hk,e⟩
   rw [zay] at hk
   rw [zcx _ _ _ _ hx] at e
   by_cases hkx:at1 l x=k
   ·rw [if_pos hkx,<- hkx,zec hx] at e
    exact absurd (congrArg Prod.fst e).symm hy
   ·rw [if_neg hkx] at e
    exact ⟨k,hk,e⟩
  ·rintro ⟨k,hk,e⟩
   refine ⟨k,by rw [zay]; exact hk,?_⟩
   rw [zcx _ _ _ _ hx,if_neg (fun hkx=>?_)]
   ·exact e
   ·subst hkx
    rw [<- zec hx,e] at hy
    exact hy rfl

theorem zrf {l:List (Int×Int)} {x n:Int} (hx:¬ at1 l x < l.length) (hok:Okn l) (hok2:Okn (l++[(x,n)])):look (l++[(x,n)])=ziz (look l) x (some n):=by
 funext y
 unfold ziz
 refine zlQ fun v=>?_
 rw [zeY hok2]
 have hl:(l++[(x,n)]).getD l.length (0,0)=(x,n):=by rw [List.getD_eq_getElem?_getD]; simp
 by_cases hy:y=x
 ·subst hy
  rw [if_pos rfl]
  constructor
  ·rintro ⟨k,hk,e⟩
   have:k=l.length:=hok2.uni hk (by simp) (by rw [e,hl])
   rw [this,hl] at e
   exact congrArg some (congrArg Prod.snd e)
  ·intro e
   injection e with e
   exact ⟨l.length,by simp,by rw [hl,e]⟩
 ·rw [if_neg hy,zeY hok]
  constructor
  ·rintro ⟨k,hk,e⟩
   have hkl:k < l.length:=by
    by_cases h:k < l.length
    ·exact h
    ·simp at hk
     have:k=l.length:=by omega
     rw [this,hl] at e
     exact absurd (congrArg Prod.fst e).symm hy
   refine ⟨k,hkl,?_⟩
   rw [List.getD_eq_getElem?_getD,List.getElem?_append_left hkl,<- List.getD_eq_getElem?_getD] at e
   exact e
  ·rintro ⟨k,hk,e⟩
   refine ⟨k,by simp; omega,?_⟩
   rw [List.getD_eq_getElem?_getD,List.getElem?_append_left hk,<- List.getD_eq_getElem?_getD]
   exact e

theorem zfk {l:List (Int×Int)} {i j:Nat} (hi:i < l.length) (hj:j < l.length - 1):((l.set i (l.getD (l.length - 1) (0,0))).take (l.length - 1)).getD j (0,0)=if i=j then l.getD (l.length - 1) (0,0) else l.getD j (0,0):=by
 rw [List.getD_eq_getElem?_getD,List.getElem?_take,if_pos hj,List.getElem?_set]
 by_cases h:i=j
 ·subst h; rw [if_pos rfl,if_pos hi,if_pos rfl]; rfl
 ·rw [if_neg h,if_neg h,List.getD_eq_getElem?_getD]

theorem zqD {l:List (Int×Int)} {x:Int} (h:Okn l) (hx:at1 l x < l.length) (hok:Okn ((l.set (at1 l x) (l.getD (l.length - 1) (0,0))).take (l.length - 1))) :
  look ((l.set (at1 l x) (l.getD (l.length - 1) (0,0))).take (l.length - 1))=ziz (look l) x none:=by
 have hlen:((l.set (at1 l x) (l.getD (l.length - 1) (0,0))).take (l.length - 1)).length=l.length - 1:=by simp
 funext y
 unfold ziz
 refine zlQ fun v=>?_
 rw [zeY hok,hlen]
 by_cases hy:y=x
 ·subst hy
  rw [if_pos rfl]
  constructor
  ·rintro ⟨k,hk,e⟩
   rw [zfk hx hk] at e
   by_cases hkx:at1 l y=k
   ·rw [if_pos hkx] at e
    have:=h.uni (i:=l.length - 1) (j:=at1 l y) (by omega) hx (by rw [e,zec hx])
    omega
   ·rw [if_neg hkx] at e
    have:=h.uni (i:=k) (j:=at1 l y) (by omega) hx (by rw [e,zec hx])
    omega
  ·intro e; cases e
 ·rw [if_neg hy,zeY h]
  constructor
  ·rintro ⟨k,hk,e⟩
   rw [zfk hx hk] at e
   by_cases hkx:at1 l x=k
   ·rw [if_pos hkx] at e; exact ⟨l.length - 1,by omega,e⟩
   ·rw [if_neg hkx] at e; exact ⟨k,by omega,e⟩
  ·rintro ⟨k,hk,e⟩
   have hne:k≠at1 l x:=fun hkx=>by
    subst hkx
    rw [<- zec hx,e] at hy
    exact hy rfl
   by_cases hkl:k=l.length - 1
   ·subst hkl
    refine ⟨at1 l x,by omega,?_⟩
    rw [zfk hx (by omega),if_pos rfl,e]
   ·refine ⟨k,by omega,?_⟩
    rw [zfk hx (by omega),if_neg (fun h=>hne h.symm),e]

theorem zo2 {l:List (Int×Int)} {c:Cl} (h:Okn l) (hc:wrongCl c=0) (k1:1<=c.kind) (k4:c.kind<=4) (hroom:at1 l c.name < l.length∨l.length < 5):look (zaN l c).1=(doF (look l) c).1/\(zaN l c).2=(doF (look l) c).2:=by
 have hok:=(zhO h hc).1
 have hn:=(zgI hc).2.2.2
 obtain ⟨kind,name,other,n⟩:=c
 simp only [] at *
 have hk:kind=1∨kind=2∨kind=3∨kind=4:=by omega
 by_cases hx:at1 l name < l.length
 ·have hs:=zkr hx
  rcases hk with rfl | rfl | rfl | rfl
  ·have e:zaN l ⟨1,name,other,n⟩=(put1 l (at1 l name) n,⟨0,num l (at1 l name)⟩):=by simp [zaN,hx]
   rw [e]
   unfold doF
   simp only [if_pos,hs]
   exact ⟨zkB h hx hn.1 hn.2,rfl⟩
  ·have e:zaN l ⟨2,name,other,n⟩=(l,⟨0,num l (at1 l name)⟩):=by simp [zaN,hx]
   rw [e]
   unfold doF
   simp only [hs]
   exact ⟨rfl,rfl⟩
  ·have e:zaN l ⟨3,name,other,n⟩=((l.set (at1 l name) (l.getD (l.length - 1) (0,0))).take (l.length - 1),⟨0,num l (at1 l name)⟩):=by simp [zaN,hx]
   rw [e] at hok ⊢
   unfold doF
   simp only [hs]
   exact ⟨zqD h hx hok,rfl⟩
  ·by_cases hr:-1073741824<=num l (at1 l name)+n/\num l (at1 l name)+n<=1073741824
   ·have e:zaN l ⟨4,name,other,n⟩=(put1 l (at1 l name) (num l (at1 l name)+n),⟨0,num l (at1 l name)+n⟩):=by simp [zaN,hx,hr]
    rw [e]
    unfold doF
    simp only [hs]
    rw [if_neg (by decide),if_neg (by decide),if_neg (by decide),if_neg (by simpa using hr)]
    exact ⟨zkB h hx hr.1 hr.2,rfl⟩
   ·have e:zaN l ⟨4,name,other,n⟩=(l,⟨3,0⟩):=by simp [zaN,hx,hr]
    rw [e]
    unfold doF
    simp only [hs]
    rw [if_neg (by decide),if_neg (by decide),if_neg (by decide),if_pos hr]
    exact ⟨rfl,rfl⟩
 ·have hs:look l name=none:=zkY.2 hx
  have h5:l.length < 5:=hroom.resolve_left hx
  rcases hk with rfl | rfl | rfl | rfl
  ·have e:zaN l ⟨1,name,other,n⟩=(l++[(name,n)],⟨0,0⟩):=by simp [zaN,hx]; omega
   rw [e] at hok ⊢
   unfold doF
   simp only [hs]
   exact ⟨zrf hx h hok,rfl⟩
  all_goals
   have e:∀ k,k≠5->k≠1->zaN l ⟨k,name,other,n⟩=(l,⟨6,0⟩):=fun k a b=>by simp [zaN,hx,a,b]
   rw [e _ (by decide) (by decide)]
   unfold doF
   simp only [hs]
   exact ⟨rfl,rfl⟩

theorem zgK {f g:Int->Option Int} {x y:Int} {v:Option Int} (h:f y=g y):ziz f x v y=ziz g x v y:=by
 unfold ziz
 rw [h]
theorem zqz {f g:Int->Option Int} {c:Cl} (h:f c.name=g c.name):(doF f c).2=(doF g c).2/\∀ x,f x=g x->(doF f c).1 x=(doF g c).1 x:=by
 unfold doF
 rw [h]
 by_cases h1:c.kind=1
 ·rw [if_pos h1,if_pos h1]
  exact ⟨rfl,fun x hx=>zgK hx⟩
 rw [if_neg h1,if_neg h1]
 cases g c.name with
 | none=>exact ⟨rfl,fun x hx=>hx⟩
 | some v =>
  simp only []
  by_cases h2:c.kind=2
  ·rw [if_pos h2,if_pos h2]; exact ⟨rfl,fun x hx=>hx⟩
  rw [if_neg h2,if_neg h2]
  by_cases h3:c.kind=3
  ·rw [if_pos h3,if_pos h3]
   exact ⟨rfl,fun x hx=>zgK hx⟩
  rw [if_neg h3,if_neg h3]
  split
  ·exact ⟨rfl,fun x hx=>hx⟩
  ·exact ⟨rfl,fun x hx=>zgK hx⟩
theorem zkU {f:Int->Option Int} {c:Cl} {x:Int} (hx:x≠c.name):(doF f c).1 x=f x:=by
 unfold doF
 by_cases h1:c.kind=1
 ·rw [if_pos h1]; exact if_neg hx
 rw [if_neg h1]
 cases f c.name with
 | none=>rfl
 | some v =>
  simp only []
  by_cases h2:c.kind=2
  ·rw [if_pos h2]
  rw [if_neg h2]
  by_cases h3:c.kind=3
  ·rw [if_pos h3]; exact if_neg hx
  rw [if_neg h3]
  split
  ·rfl
  ·exact if_neg hx

def zmy (s:(Int->Option Int)×List Rp) (c:Cl):(Int->Option Int)×List Rp:=((doF s.1 c).1,s.2++[(doF s.1 c).2])
def zfb (cs:List Cl):(Int->Option Int)×List Rp:=cs.foldl zmy (fun _=>none,[])
theorem allF_snoc (cs:List Cl) (c:Cl):zfb (cs++[c])=zmy (zfb cs) c:=by simp [zfb]

theorem zpF {a b:List Int} (ha:a.Nodup) (hs:∀ x ∈ a,x ∈ b):a.length<=b.length:=by
 induction a generalizing b with
 | nil=>exact Nat.zero_le _
 | cons x a ih =>
  obtain ⟨hx,ha⟩:=List.nodup_cons.1 ha
  have hxb:x ∈ b:=hs x (by simp)
  have:=ih (b:=b.erase x) ha (fun y hy=>(List.mem_erase_of_ne (fun e=>hx (by rw [<- e]; exact hy))).2 (hs y (by simp [hy])))
  rw [List.length_erase_of_mem hxb] at this
  have hpos:0 < b.length:=List.length_pos_of_mem hxb
  simp
  omega

theorem zhP {l:List (Int×Int)} {x:Int}:x ∈ l.map Prod.fst↔at1 l x < l.length:=by
 constructor
 ·intro h
  obtain ⟨p,hp,rfl⟩:=List.mem_map.1 h
  unfold at1
  exact List.findIdx_lt_length_of_exists ⟨p,hp,by simp⟩
 ·intro h
  have e:=zec h
  rw [List.getD_eq_getElem?_getD,List.getElem?_eq_getElem h] at e
  exact List.mem_map.2 ⟨_,List.getElem_mem h,e⟩

theorem zmx {l:List (Int×Int)} {ns:List Int} (h:Okn l) (hs:∀ x ∈ l.map Prod.fst,x ∈ ns) (h5:ns.length<=5) {x:Int} (hx:x ∈ ns):at1 l x < l.length∨l.length < 5:=by
 by_cases ha:at1 l x < l.length
 ·exact .inl ha
 ·right
  have hn:x ∉ l.map Prod.fst:=fun hm=>ha (zhP.1 hm)
  have:=zpF (List.nodup_cons.2 ⟨hn,h.2.2⟩) (b:=ns) (fun y hy=>by
   rcases List.mem_cons.1 hy with rfl | hy
   ·exact hx
   ·exact hs y hy)
  simp at this
  omega

theorem zrJ {ns:List Int} (h5:ns.length<=5) (q:List Rq) (hq:∀ r ∈ q,1<=r.call.kind/\r.call.kind<=4/\wrongCl r.call=0/\r.call.name ∈ ns) :
  Okn (names q)/\(∀ x ∈ (names q).map Prod.fst,x ∈ ns)/\look (names q)=(zfb (q.map Rq.call)).1/\zje q=(zfb (q.map Rq.call)).2:=by
 revert hq
 refine zjq (P:=fun q=>(∀ r ∈ q,1<=r.call.kind/\r.call.kind<=4/\wrongCl r.call=0/\r.call.name ∈ ns)->Okn (names q)/\(∀ x ∈ (names q).map Prod.fst,x ∈ ns)/\look (names q)=(zfb (q.map Rq.call)).1/\zje q=(zfb (q.map Rq.call)).2) ?_ ?_ q
 ·intro _
  refine ⟨okn_nil,fun x hx=>by simp [zkJ] at hx,?_,rfl⟩
  funext x
  rfl
 ·intro q r ih hq
  obtain ⟨i1,i2,i3,i4⟩:=ih (fun x hx=>hq x (by simp [hx]))
  obtain ⟨k1,k4,hw,hn⟩:=hq r (by simp)
  obtain ⟨d1,d2⟩:=zo2 i1 hw k1 k4 (zmx i1 i2 h5 hn)
  have hok:=(zhO i1 hw).1
  rw [names_snoc,reps_snoc,List.map_append,List.map_cons,List.map_nil,allF_snoc]
  unfold zmy
  rw [<- i3,<- i4]
  refine ⟨hok,fun x hx=>?_,d1,by rw [d2]⟩
  by_cases hxn:x=r.call.name
  ·rw [hxn]; exact hn
  ·refine i2 x (zhP.2 ?_)
   have h1:=zhP.1 hx
   have h2:=congrFun d1 x
   rw [zkU hxn] at h2
   by_cases h3:at1 (names q) x < (names q).length
   ·exact h3
   ·rw [zkY.2 h3,zkr h1] at h2
    cases h2

theorem zod {ns:List Int} (h5:ns.length<=5) {R:Nat->Int->Prop} (hR:∀ i k x,R i x->R k x->i=k) (q:List Rq)
  (hq:∀ r ∈ q,(1<=r.call.kind/\r.call.kind<=4/\wrongCl r.call=0/\r.call.name ∈ ns)/\∃ i:Nat,r.client=(i:Int)/\R i r.call.name) (k:Nat) :
  (∀ x,R k x->(zfb (q.map Rq.call)).1 x=(zfb ((zaA q k).map Rq.call)).1 x)/\told q k=(zfb ((zaA q k).map Rq.call)).2:=by
 revert hq
 refine zjq (P:=fun q=>(∀ r ∈ q,(1<=r.call.kind/\r.call.kind<=4/\wrongCl r.call=0/\r.call.name ∈ ns)/\∃ i:Nat,r.client=(i:Int)/\R i r.call.name) ->
  (∀ x,R k x->(zfb (q.map Rq.call)).1 x=(zfb ((zaA q k).map Rq.call)).1 x)/\told q k=(zfb ((zaA q k).map Rq.call)).2) ?_ ?_ q
 ·intro _
  exact ⟨fun x _=>rfl,rfl⟩
 ·intro q r ih hq
  obtain ⟨i1,i2⟩:=ih (fun x hx=>hq x (by simp [hx]))
  obtain ⟨hr,i,hc,hri⟩:=hq r (by simp)
  have hall:=zrJ h5 q (fun x hx=>(hq x (by simp [hx])).1)
  have hdo:=zo2 hall.1 hr.2.2.1 hr.1 hr.2.1 (zmx hall.1 hall.2.1 h5 hr.2.2.2)
  rw [List.map_append,List.map_cons,List.map_nil,allF_snoc,told_snoc,zgp]
  by_cases hik:r.client=(k:Int)
  ·rw [if_pos hik,if_pos hik,List.map_append,List.map_cons,List.map_nil,allF_snoc]
   have hk:i=k:=by omega
   subst hk
   have hcg:=zqz (i1 _ hri)
   unfold zmy
   refine ⟨fun x hx=>hcg.2 x (i1 x hx),?_⟩
   rw [i2,hdo.2,hall.2.2.1,hcg.1]
  ·rw [if_neg hik,if_neg hik]
   refine ⟨fun x hx=>?_,i2⟩
   rw [<- i1 x hx]
   unfold zmy
   refine zkU (fun e=>hik ?_)
   have:=hR i k x (by rw [e]; exact hri) hx
   rw [hc,this]

theorem zk0 {l:List (List Cl)} {p:List Rq} (hd:Done l p) {ns:List Int} (h5:ns.length<=5) {R:Nat->Int->Prop} (hR:∀ i k x,R i x->R k x->i=k)
  (hl:∀ i,i < l.length->∀ c ∈ l.getD i [],1<=c.kind/\c.kind<=4/\wrongCl c=0/\c.name ∈ ns/\R i c.name) {k:Nat} (hk:k < l.length):told p k=(zfb (l.getD k [])).2:=by
 have:=(zod h5 hR p (fun r hr=>by
  obtain ⟨i,t,hi,ht,rfl⟩:=hd.past r hr
  obtain ⟨a,b,c,d,e⟩:=hl i hi _ (zgb (d:=zeroCl) ht)
  exact ⟨⟨a,b,c,d⟩,i,rfl,e⟩) k).2
 rw [this,zde hd hk]

open Go Go.RowKit

theorem zsD {i t:Nat} {r:Rp} (hi:i < 3) (ht:t < 8) (h:ztd r):zbq ⟨i,t,r⟩=0:=by
 obtain ⟨h1,h2,h3,h4,h5⟩:=h
 unfold zbq
 rw [if_neg]
 simp only []
 omega
theorem znY {l:List (List Cl)} (hl:zaF l) {m:Mc} {ks:List Nat} {bz:Option Nat} (h:MInv l m ks bz) :
  (zaI m.store m.server).2.2.1=[]∨∃ (i:Nat) (t:Int) (r:Rp),zbq ⟨i,t,r⟩=0/\i < m.clients.length/\(zaI m.store m.server).2.2.1=zbF ⟨i,t,r⟩:=by
 have h3:=hl.1
 have h8:∀ i,(l.getD i []).length<=8:=fun i=>by
  rw [List.getD_eq_getElem?_getD]
  cases e:l[i]? with
  | none=>simp
  | some x=>exact (hl.2 x (List.mem_of_getElem? e)).1
 cases bz with
 | some i =>
  have hbusy:m.server.busy=true:=h.busy
  obtain ⟨hi,w2,w3,w4,w5⟩:=h.work i rfl
  obtain ⟨c,hc⟩:∃ c,m.clients[i]?=some c:=⟨_,List.getElem?_eq_getElem (by rw [h.nc]; exact hi)⟩
  have ci:=h.clients i c hc
  rw [zbs hc] at w2
  cases hp:m.server.plan with
  | cons q rest=>rw [zf7 hbusy hp]; exact .inl rfl
  | nil =>
   have p5:c.got.length < (l.getD i []).length:=by
    cases ci.phase with
    | rest a b=>exact absurd rfl b
    | wait a b=>exact absurd rfl b
    | work a b d e f g k=>exact g
    | hear a b=>exact absurd rfl b
    | lost a b=>exact absurd rfl b
   have hk:=zes hl hi p5
   rw [ze9 hbusy hp,w2]
   refine .inr ⟨i,c.got.length,m.server.says,zsD (by omega) (by have:=h8 i; omega) ?_,by rw [h.nc]; exact hi,rfl⟩
   rw [w3,w2]
   exact zpb (zfi hl h.past) hk
 | none =>
  have hbusy:m.server.busy=false:=h.busy
  cases ks with
  | nil=>rw [zgY hbusy (by rw [h.box]; rfl)]; exact .inl rfl
  | cons k ks =>
   have hk:k < l.length:=h.ksl k (by simp)
   obtain ⟨c,hc⟩:∃ c,m.clients[k]?=some c:=⟨_,List.getElem?_eq_getElem (by rw [h.nc]; exact hk)⟩
   have ci:=h.clients k c hc
   have p5:c.got.length < (l.getD k []).length:=by
    cases ci.phase with
    | rest a=>exact absurd (by simp) a
    | wait a b d e f g=>exact g
    | work a=>exact absurd (by simp) a
    | hear a=>exact absurd (by simp) a
    | lost a=>exact absurd (by simp) a
   have hbox:m.server.box=zbv (zax l k c.got.length)::ks.map (fun k=>zbv (zax l k (za6 m.clients k))):=by
    rw [h.box,List.map_cons,zbs hc]
   have hlast:=ci.last
   have htl:=zdB m.store.past k
   have hmost:=ci.most
   have hS:=serve_take (s:=m.store) hbusy hbox (zgo hl hk p5)
   rw [show (zax l k c.got.length).client=(k:Int) from rfl,hlast] at hS
   rw [hS]
   by_cases hz:(zaA m.store.past k).length=0
   ·rw [if_pos hz,if_neg (by simp)]
    exact .inl rfl
   ·rw [if_neg hz]
    have h8k:=h8 k
    repeat' split
    ·exact .inr ⟨k,((zaA m.store.past k).length - 1:Nat),_,zhM hl h.past hk (by omega) (by omega),by rw [h.nc]; exact hk,rfl⟩
    ·exact .inl rfl
    ·exact .inl rfl
open Go Go.RowKit Go.Maps

def zs9:DataW Unit:=.lit (.bool true)
def noD:DataW Unit:=.lit (.bool false)
def zdI (x:Int):Lit:=.int .i64 x
def zgt (xs:List Int):DataW Unit:=setOf zs9 (xs.map zdI)
theorem zqx (xs:List Int) (x:Int):zgt (xs++[x])=(zgt xs).put (zdI x) zs9:=by
 unfold zgt
 rw [List.map_append]
 exact setOf_snoc _ _ _
theorem zhL (a b:Int):(zdI a).sameKey (zdI b)=decide (a=b):=by simp [zdI,Lit.sameKey]
theorem zps (xs:List Int):∀ x ∈ xs.map zdI,WideAt.IsKeyLit x:=fun x hx=>by
 obtain ⟨y,_,rfl⟩:=List.mem_map.1 hx
 exact trivial
theorem zo3 (y:Int):∀ (xs:List Int) (m:DataW Unit),IsMap m->((xs.map zdI).foldl (fun m x=>m.put x zs9) m).atKey (zdI y) noD=if y ∈ xs then zs9 else m.atKey (zdI y) noD
 | [],m,_=>by simp
 | x::xs,m,hm=>by
  rw [List.map_cons,List.foldl_cons,zo3 y xs _ (hm.put _ _)]
  by_cases h:y ∈ xs
  ·rw [if_pos h,if_pos (List.mem_cons_of_mem _ h)]
  ·rw [if_neg h]
   by_cases e:y=x
   ·subst e
    rw [if_pos (List.mem_cons_self ..)]
    exact atKey_put_same hm (by exact trivial) _ _
   ·rw [if_neg (by simp [e,h])]
    refine atKey_put_other ?_ _ _
    intro q
    exact e (by simpa [zdI] using q)
theorem ztB (xs:List Int) (y:Int):(zgt xs).atKey (zdI y) noD=.lit (.bool (decide (y ∈ xs))):=by
 unfold zgt setOf
 rw [zo3 y xs _ isMap_empty]
 by_cases h:y ∈ xs
 ·rw [if_pos h,decide_eq_true h]; rfl
 ·rw [if_neg h,decide_eq_false h]; rfl
theorem zpx:∀ (xs acc:List Int),(acc++xs).Nodup->((xs.map zdI).foldl addKey (acc.map zdI))=(acc++xs).map zdI
 | [],acc,_=>by simp
 | x::xs,acc,h=>by
  rw [List.map_cons,List.foldl_cons]
  have hx:x ∉ acc:=fun q=>by
   have:=List.nodup_append.1 h
   exact this.2.2 x q x (by simp) rfl
  have e:addKey (acc.map zdI) (zdI x)=(acc++[x]).map zdI:=by
   unfold addKey
   rw [if_neg]
   ·simp
   ·rw [List.any_map,List.any_eq_true]
    rintro ⟨y,hy,q⟩
    have q:(zdI y).sameKey (zdI x)=true:=q
    rw [zhL] at q
    exact hx (by rw [<- of_decide_eq_true q]; exact hy)
  rw [e,zpx xs (acc++[x]) (by simpa using h)]
  simp
theorem zpX {xs:List Int} (h:xs.Nodup):size (zgt xs)=xs.length:=by
 unfold zgt
 rw [size_setOf _ _ (zps xs)]
 have:=zpx xs [] (by simpa using h)
 simp only [List.map_nil,List.nil_append] at this
 rw [this,List.length_map]
def distinct (xs:List Int):List Int:=xs.foldl (fun acc x=>if x ∈ acc then acc else acc++[x]) []
theorem zgG:∀ (xs acc:List Int),(xs.map zdI).foldl addKey (acc.map zdI)=(xs.foldl (fun acc x=>if x ∈ acc then acc else acc++[x]) acc).map zdI
 | [],acc=>rfl
 | x::xs,acc=>by
  rw [List.map_cons,List.foldl_cons,List.foldl_cons,<- zgG xs]
  congr 1
  unfold addKey
  by_cases h:x ∈ acc
  ·rw [if_pos,if_pos h]
   rw [List.any_map,List.any_eq_true]
   exact ⟨x,h,by show (zdI x).sameKey (zdI x)=true; rw [zhL]; simp⟩
  ·rw [if_neg,if_neg h]
   ·simp
   ·rw [List.any_map,List.any_eq_true]
    rintro ⟨y,hy,q⟩
    have q:(zdI y).sameKey (zdI x)=true:=q
    rw [zhL] at q
    exact h (by rw [<- of_decide_eq_true q]; exact hy)
theorem zj4 (xs:List Int):size (zgt xs)=(distinct xs).length:=by
 unfold zgt
 rw [size_setOf _ _ (zps xs)]
 have:=zgG xs []
 simp only [List.map_nil] at this
 rw [this,List.length_map]
 rfl
theorem zft (y:Int):∀ (xs acc:List Int),(y ∈ xs.foldl (fun acc x=>if x ∈ acc then acc else acc++[x]) acc)↔y ∈ acc∨y ∈ xs
 | [],acc=>by simp
 | x::xs,acc=>by
  rw [List.foldl_cons,zft y xs]
  by_cases h:x ∈ acc
  ·rw [if_pos h,List.mem_cons]
   constructor
   ·rintro (q | q)
    ·exact .inl q
    ·exact .inr (.inr q)
   ·rintro (q | q | q)
    ·exact .inl q
    ·subst q; exact .inl h
    ·exact .inr q
  ·rw [if_neg h,List.mem_append,List.mem_singleton,List.mem_cons]
   constructor
   ·rintro ((q | q) | q)
    ·exact .inl q
    ·exact .inr (.inl q)
    ·exact .inr (.inr q)
   ·rintro (q | q | q)
    ·exact .inl (.inl q)
    ·exact .inl (.inr q)
    ·exact .inr q

section
variable {P:Program} {k e:TypeId} {w:World} {b n:Nat} {D:DataW Unit}
theorem zr9 (he:P.underlying e=some .bool) {v:Value} {z:DataW Unit×List MemPlace} (h:plainElem P e v=some z):∃ c,v=.bool c/\z=(.lit (.bool c),[]):=by
 cases v with
 | bool c=>rw [plainElem_bool he] at h; cases h; exact ⟨c,rfl,rfl⟩
 | _=>simp [plainElem,he] at h
theorem zni {t:TypeId} (h:w.ownsMap P k (plainElem P e) b n D) (K:Keyed P k) (ht:P.underlying t=some (.map k e)) (he:P.underlying e=some .bool) (hz:(zeroValue e).run P w=.ok (.bool false) w)
  {key:Value} {kl:Lit} (hkey:keyOf P k key=some kl):∃ c,(Instr.lookup t (.map (some b)) key false).run P w=.ok (.bool c) w/\D.atKey kl noD=.lit (.bool c):=by
 obtain ⟨v,ps,hrun,hv⟩:=h.lookup K ht hz (plainElem_bool he false) hkey
 obtain ⟨c,rfl,hc⟩:=zr9 he hv
 simp only [Prod.mk.injEq] at hc
 exact ⟨c,hrun,hc.1⟩
theorem zoD {t:TypeId} {xs:List Int} (h:w.ownsMap P k (plainElem P e) b n (zgt xs)) (hk:P.underlying k=some (.int .i64)) (ht:P.underlying t=some (.map k e)) (he:P.underlying e=some .bool) (hz:(zeroValue e).run P w=.ok (.bool false) w)
  {x:Int} (hx:(Lit.int .i64 x).wf=true):(Instr.lookup t (.map (some b)) (.int .i64 x) false).run P w=.ok (.bool (decide (x ∈ xs))) w:=by
 obtain ⟨c,hrun,hc⟩:=zni h (int_keyed hk) ht he hz (keyOf_int_mk hk hx)
 have hc2:(zgt xs).atKey (zdI x) noD=.lit (.bool c):=hc
 rw [ztB] at hc2
 injection hc2 with h1
 injection h1 with h2
 rw [hrun,h2]
theorem zol {w':World} (h:w.ownsMap P k (plainElem P e) b n D) (he:Ext w w'):w'.ownsMap P k (plainElem P e) b n D:=by
 obtain ⟨es,clock,h1,h2⟩:=h
 have hb:b < w.heap.size:=(Array.getElem?_eq_some_iff.1 h1).1
 exact ⟨es,clock,by rw [he.block b hb]; exact h1,h2⟩
end

end Go.Mk

/- zbb of the proof, merged: Math10 Math11 Math12 Math13 Math25 Math21 Math22 Math23 Math26 Mem11. -/
import Derived.Test.YtdmipnnfoolelagGreatDoorKTD
import Derived.Test.YtdmipnnfoolelagGreatDoorKTB
import Derived.Test.YtdmipnnfoolelagGreatDoorKTC
import Derived.Test.YtdmipnnfoolelagGreatDoorKTE

namespace Go.Mk
open Go Go.RowKit

def zax (l:List (List Cl)) (i t:Nat):Rq:=⟨i,t,(l.getD i []).getD t zeroCl⟩
def zaA (p:List Rq) (i:Nat):List Rq:=p.filter fun r=>decide (r.client=(i:Int))
def names (p:List Rq):List (Int×Int):=(zdv (p.map Rq.call)).1
def told (p:List Rq) (i:Nat):List Rp:=((p.zip (zdv (p.map Rq.call)).2).filter fun x=>decide (x.1.client=(i:Int))).map fun x=>⟨x.2.1,x.2.2⟩

theorem zlD (cs:List Cl):(zdv cs).2.length=cs.length:=by
 have key:∀ (cs:List Cl) (s:List (Int×Int)×List (Int×Int)),(cs.foldl zfQ s).2.length=s.2.length+cs.length:=by
  intro cs
  induction cs with
  | nil=>intro s; rfl
  | cons c cs ih=>intro s; rw [List.foldl_cons,ih]; simp [zfQ]; omega
 have:=key cs ([],[])
 simpa [zdv] using this
theorem names_snoc (p:List Rq) (r:Rq):names (p++[r])=(zaO (names p) r.call).1:=by
 unfold names
 rw [List.map_append,List.map_cons,List.map_nil,zfy]
 rfl
theorem zgr (p:List Rq) (r:Rq) (i:Nat):zaA (p++[r]) i=if r.client=(i:Int) then zaA p i++[r] else zaA p i:=by
 unfold zaA
 rw [List.filter_append]
 by_cases h:r.client=(i:Int)
 ·rw [if_pos h]; simp [h]
 ·rw [if_neg h]; simp [h]
theorem told_snoc (p:List Rq) (r:Rq) (i:Nat):told (p++[r]) i=if r.client=(i:Int) then told p i++[(zaO (names p) r.call).2] else told p i:=by
 unfold told names
 rw [List.map_append,List.map_cons,List.map_nil,zfy]
 simp only [zfQ]
 rw [List.zip_append (by rw [zlD,List.length_map])]
 simp only [List.zip_cons_cons,List.zip_nil_right,List.filter_append]
 by_cases h:r.client=(i:Int)
 ·rw [if_pos h]; simp [h]
 ·rw [if_neg h]; simp [h]
theorem zdu (p:List Rq) (i:Nat):(told p i).length=(zaA p i).length:=by
 have key:∀ (q:List Rq) (y:List (Int×Int)),q.length=y.length->(((q.zip y).filter fun x=>decide (x.1.client=(i:Int))).map fun x=>(⟨x.2.1,x.2.2⟩:Rp)).length=(q.filter fun r=>decide (r.client=(i:Int))).length:=by
  intro q
  induction q with
  | nil=>intro y _; simp
  | cons r q ih =>
   intro y hy
   cases y with
   | nil=>simp at hy
   | cons a y =>
    have:=ih y (by simpa using hy)
    by_cases h:r.client=(i:Int)
    ·simp [h] at this ⊢; exact this
    ·simp [h] at this ⊢; exact this
 exact key p _ (by rw [zlD,List.length_map])

theorem zfI {X:Type} {xs:List X} {t:Nat} {d:X} (h:t < xs.length):xs.getD t d ∈ xs:=by
 rw [List.getD_eq_getElem?_getD,List.getElem?_eq_getElem h]
 exact List.getElem_mem h
theorem zgi {l:List (List Cl)} (hl:zaG l) {i t:Nat} (hi:i < l.length) (ht:t < (l.getD i []).length):zbI (zax l i t)=0:=by
 have hg:l.getD i []=l[i]:=by simp [hi]
 have h8:=hl.2 (l.getD i []) (by rw [hg]; exact List.getElem_mem hi)
 have h3:=hl.1
 have hw:wrongCl ((l.getD i []).getD t zeroCl)=0:=h8.2 _ (zfI ht)
 unfold zbI zax
 rw [if_neg (by simp only []; omega)]
 exact hw
theorem zel {l:List (List Cl)} (hl:zaG l) {i t:Nat} (hi:i < l.length) (ht:t < (l.getD i []).length):wrongCl (zax l i t).call=0:=(zeU (zgi hl hi ht)).2

def ztv (r:Rp):Prop:=0<=r.err/\r.err<=12/\-1073741824<=r.n/\r.n<=1073741824/\(0 < r.err->r.n=0)
theorem zpp {l:List (Int×Int)} {c:Cl} (h:Okn l) (hc:wrongCl c=0):ztv (zaO l c).2:=by
 obtain ⟨_,h2,h3,h4⟩:=zhX h hc
 have he:(zaO l c).2.err=0∨(zaO l c).2.err=3∨(zaO l c).2.err=6∨(zaO l c).2.err=9:=by
  unfold zaO
  repeat' split
  all_goals simp
 refine ⟨by omega,by omega,h3,h4,fun h0=>?_⟩
 rcases h2 with h2 | h2
 ·omega
 ·exact h2.1

def zg6 (l:List (List Cl)) (p:List Rq):Prop:=∀ r ∈ p,∃ i t:Nat,i < l.length/\t < (l.getD i []).length/\r=zax l i t
theorem zfq {l:List (List Cl)} (hl:zaG l) {p:List Rq} (hp:zg6 l p):Okn (names p):=by
 have:=(zuc (cs:=p.map Rq.call) (fun c hc=>by
  obtain ⟨r,hr,rfl⟩:=List.mem_map.1 hc
  obtain ⟨i,t,hi,ht,rfl⟩:=hp r hr
  exact zel hl hi ht) p.length).1
 rwa [List.take_of_length_le (by simp)] at this
theorem zqN {l:List (List Cl)} (hl:zaG l) {p:List Rq} (hp:zg6 l p) (i:Nat):∀ r ∈ told p i,ztv r:=by
 have key:∀ n,n<=p.length->∀ r ∈ told (p.take n) i,ztv r:=by
  intro n
  induction n with
  | zero=>intro _ r hr; simp [told] at hr
  | succ n ih =>
   intro hn r hr
   have hlt:n < p.length:=by omega
   rw [List.take_add_one,List.getElem?_eq_getElem hlt] at hr
   simp only [Option.toList_some] at hr
   rw [told_snoc] at hr
   split at hr
   ·rw [List.mem_append] at hr
    rcases hr with hr | hr
    ·exact ih (by omega) r hr
    ·simp only [List.mem_singleton] at hr
     subst hr
     obtain ⟨j,t,hj,ht,he⟩:=hp p[n] (List.getElem_mem hlt)
     refine zpp (zfq hl (p:=p.take n) fun q hq=>hp q (List.mem_of_mem_take hq)) ?_
     rw [he]
     exact zel hl hj ht
   ·exact ih (by omega) r hr
 have:=key p.length (Nat.le_refl _)
 rwa [List.take_length] at this
theorem zh0 {l:List (List Cl)} (hl:zaG l) {p:List Rq} (hp:zg6 l p) {i t:Nat} (hi:i < l.length) (ht:t < 8) (hd:t < (told p i).length):zbp ⟨i,t,(told p i).getD t ⟨0,0⟩⟩=0:=by
 have hm:(told p i).getD t ⟨0,0⟩ ∈ told p i:=by
  rw [List.getD_eq_getElem?_getD,List.getElem?_eq_getElem hd]; exact List.getElem_mem hd
 obtain ⟨h1,h2,h3,h4,h5⟩:=zqN hl hp i _ hm
 have:=hl.1
 unfold zbp
 rw [if_neg]
 simp only []
 omega
open Go Go.RowKit

def za6 (cl:List Cn) (k:Nat):Nat:=(cl.getD k (zbO [])).got.length

inductive Phase (l:List (List Cl)) (p:List Rq) (gen:Int) (up:Bool) (ks:List Nat) (bz:Option Nat) (i:Nat) (c:Cn):Prop
 | rest:i ∉ ks->bz≠some i->c.sent=false->c.box=[]->(zaA p i).length=c.got.length->Phase l p gen up ks bz i c
 | wait:i ∈ ks->bz≠some i->c.sent=true->c.gen=gen->c.box=[]->c.got.length < (l.getD i []).length->Phase l p gen up ks bz i c
 | work:i ∉ ks->bz=some i->c.sent=true->c.gen=gen->c.box=[]->c.got.length < (l.getD i []).length->(zaA p i).length=c.got.length->Phase l p gen up ks bz i c
 | hear:i ∉ ks->bz≠some i->c.sent=true->(zaA p i).length=c.got.length+1->c.box=[zbF ⟨i,c.got.length,(told p i).getD c.got.length ⟨0,0⟩⟩]->Phase l p gen up ks bz i c
 | lost:i ∉ ks->bz≠some i->c.sent=true->c.box=[]->c.got.length < (l.getD i []).length->(up=true->c.gen≠gen)->Phase l p gen up ks bz i c

structure CInv (l:List (List Cl)) (p:List Rq) (an:List An) (gen:Int) (up:Bool) (ks:List Nat) (bz:Option Nat) (i:Nat) (c:Cn):Prop where
 calls:c.calls=l.getD i []
 at_:c.at_=(c.got.length:Int)
 done:zaA p i=(List.range (zaA p i).length).map (zax l i)
 most:(zaA p i).length<=(l.getD i []).length
 got:c.got=(told p i).take c.got.length
 step:(zaA p i).length=c.got.length∨(zaA p i).length=c.got.length+1
 last:lastAn an i=if (zaA p i).length=0 then (zeroAn,false) else (⟨i,((zaA p i).length - 1:Nat),(told p i).getD ((zaA p i).length - 1) ⟨0,0⟩⟩,true)
 hgen:c.gen<=gen
 phase:Phase l p gen up ks bz i c

structure MInv (l:List (List Cl)) (m:Mc) (ks:List Nat) (bz:Option Nat):Prop where
 nc:m.clients.length=l.length
 nodup:ks.Nodup
 ksl:∀ k ∈ ks,k < l.length
 box:m.server.box=ks.map fun k=>zbv (zax l k (za6 m.clients k))
 busy:m.server.busy=bz.isSome
 idle:bz=none->m.server=zbQ m.server.gen m.server.box
 work:∀ i,bz=some i->i < l.length/\m.server.now=zax l i (za6 m.clients i)/\m.server.says=(zaO (names m.store.past) m.server.now.call).2 /\
  zav m.store.cells m.server.plan=zav (zav m.store.cells m.store.undo) (zbE (names m.store.past) m.server.now.call)/\m.server.plan.length<=3
 down:m.up=false->ks=[]/\bz=none/\1<=m.pause/\m.pause<=3
 upp:m.up=true->m.pause=0
 clean:m.up=true->bz=none->m.store.undo=[]
 cells:m.store.cells.length=11
 right:zd8 (zav m.store.cells m.store.undo)=0
 nm:zbg (zav m.store.cells m.store.undo)=names m.store.past
 undo:∀ q ∈ m.store.undo,0<=q.1/\q.1<=10
 past:zg6 l m.store.past
 falls:0<=m.falls/\m.falls<=6
 gens:0<=m.server.gen/\(m.up=true->m.server.gen=m.falls)/\(m.up=false->m.server.gen+1=m.falls)
 clients:∀ i c,m.clients[i]?=some c->CInv l m.store.past m.store.answers m.server.gen m.up ks bz i c

theorem zhG (i:Nat):zaA [] i=[]:=rfl
theorem ztM (l:List (List Cl)):MInv l (zcJ l) [] none where
 nc:=by simp [zcJ]
 nodup:=List.nodup_nil
 ksl:=fun k hk=>by cases hk
 box:=rfl
 busy:=rfl
 idle:=fun _=>rfl
 work:=fun i hi=>by cases hi
 down:=fun h=>by cases h
 upp:=fun _=>rfl
 clean:=fun _ _=>rfl
 cells:=rfl
 right:=by show zd8 (zav (List.replicate 11 0) [])=0; decide
 nm:=by show zbg (zav (List.replicate 11 0) [])=[]; decide
 undo:=fun q hq=>by cases hq
 past:=fun r hr=>by cases hr
 falls:=⟨Int.le_refl _,by show (0:Int)<=6; decide⟩
 gens:=⟨Int.le_refl _,fun _=>rfl,fun h=>by cases h⟩
 clients:=fun i c hc=>by
  have hc':(l.map zbO)[i]?=some c:=hc
  rw [List.getElem?_map] at hc'
  cases hg:l[i]? with
  | none=>rw [hg] at hc'; cases hc'
  | some cs =>
   rw [hg] at hc'
   simp at hc'
   subst hc'
   have hd:l.getD i []=cs:=by simp [hg]
   exact ⟨hd.symm,rfl,rfl,Nat.zero_le _,rfl,.inl rfl,rfl,Int.le_refl _,.rest (by simp) (by simp) rfl rfl rfl⟩

theorem Phase.other {l:List (List Cl)} {p p':List Rq} {gen:Int} {up:Bool} {ks ks':List Nat} {bz bz':Option Nat} {i:Nat} {c:Cn} (h:Phase l p gen up ks bz i c)
  (hm:zaA p' i=zaA p i) (ht:told p' i=told p i) (hk:i ∈ ks'↔i ∈ ks) (hb:bz'=some i↔bz=some i):Phase l p' gen up ks' bz' i c:=by
 cases h with
 | rest a b d e f=>exact .rest (fun x=>a (hk.1 x)) (fun x=>b (hb.1 x)) d e (by rw [hm]; exact f)
 | wait a b d e f g=>exact .wait (hk.2 a) (fun x=>b (hb.1 x)) d e f g
 | work a b d e f g k=>exact .work (fun x=>a (hk.1 x)) (hb.2 b) d e f g (by rw [hm]; exact k)
 | hear a b d e f=>exact .hear (fun x=>a (hk.1 x)) (fun x=>b (hb.1 x)) d (by rw [hm]; exact e) (by rw [ht]; exact f)
 | lost a b d e f g=>exact .lost (fun x=>a (hk.1 x)) (fun x=>b (hb.1 x)) d e f g
theorem CInv.other {l:List (List Cl)} {p p':List Rq} {an an':List An} {gen:Int} {up:Bool} {ks ks':List Nat} {bz bz':Option Nat} {i:Nat} {c:Cn} (h:CInv l p an gen up ks bz i c)
  (hm:zaA p' i=zaA p i) (ht:told p' i=told p i) (ha:lastAn an' i=lastAn an i) (hk:i ∈ ks'↔i ∈ ks) (hb:bz'=some i↔bz=some i):CInv l p' an' gen up ks' bz' i c :=
 ⟨h.calls,h.at_,by rw [hm]; exact h.done,by rw [hm]; exact h.most,by rw [ht]; exact h.got,by rw [hm]; exact h.step,by rw [hm,ht,ha]; exact h.last,h.hgen,h.phase.other hm ht hk hb⟩

theorem zsn (f:Int):1<=pauseOf f/\pauseOf f<=3:=by
 unfold pauseOf
 repeat' split
 all_goals omega

theorem zr8 {l:List (List Cl)} {m:Mc} {ks:List Nat} {bz:Option Nat} (h:MInv l m ks bz):∃ ks' bz',MInv l (zf5 m).1 ks' bz':=by
 unfold zf5
 by_cases hu:m.up=true
 case neg=>rw [if_pos hu]; exact ⟨ks,bz,h⟩
 rw [if_neg (by simpa using hu)]
 by_cases hf:6<=m.falls
 ·rw [if_pos hf]; exact ⟨ks,bz,h⟩
 rw [if_neg hf]
 refine ⟨[],none,?_⟩
 have hp:=zsn (m.falls+1)
 have hfl:=h.falls
 have hge:=h.gens
 exact {
  nc:=h.nc
  nodup:=List.nodup_nil
  ksl:=fun k hk=>by cases hk
  box:=rfl
  busy:=rfl
  idle:=fun _=>rfl
  work:=fun i hi=>by cases hi
  down:=fun _=>⟨rfl,rfl,hp.1,hp.2⟩
  upp:=fun h=>by cases h
  clean:=fun h=>by cases h
  cells:=h.cells
  right:=h.right
  nm:=h.nm
  undo:=h.undo
  past:=h.past
  falls:=by show 0<=m.falls+1/\m.falls+1<=6; omega
  gens:=⟨hge.1,(fun h=>by cases h),fun _=>by show m.server.gen+1=m.falls+1; rw [hge.2.1 hu]⟩
  clients:=fun i c hc=>by
   have hi:=h.clients i c hc
   refine ⟨hi.calls,hi.at_,hi.done,hi.most,hi.got,hi.step,hi.last,hi.hgen,?_⟩
   cases hi.phase with
   | rest a b d e f=>exact .rest (by simp) (by simp) d e f
   | wait a b d e f g=>exact .lost (by simp) (by simp) d f g (fun h=>by cases h)
   | work a b d e f g k=>exact .lost (by simp) (by simp) d f g (fun h=>by cases h)
   | hear a b d e f=>exact .hear (by simp) (by simp) d e f
   | lost a b d e f g=>exact .lost (by simp) (by simp) d e f (fun h=>by cases h) }

theorem zhp {l:List (List Cl)} {m:Mc} {ks:List Nat} {bz:Option Nat} (h:MInv l m ks bz):∃ ks' bz',MInv l (zbP m) ks' bz':=by
 unfold zbP
 by_cases hu:m.up=true
 ·rw [if_pos hu]; exact ⟨ks,bz,h⟩
 rw [if_neg hu]
 have hu':m.up=false:=by simpa using hu
 obtain ⟨rfl,rfl,hp1,hp2⟩:=h.down hu'
 by_cases hp:1 < m.pause
 ·rw [if_pos hp]
  exact ⟨[],none,{ h with down:=fun _=>⟨rfl,rfl,by show 1<=m.pause - 1; omega,by show m.pause - 1<=3; omega⟩,upp:=fun h=>absurd h hu,clean:=fun h=>absurd h hu }⟩
 rw [if_neg hp]
 refine ⟨[],none,?_⟩
 have hfl:=h.falls
 have hge:=h.gens
 exact {
  nc:=h.nc
  nodup:=List.nodup_nil
  ksl:=fun k hk=>by cases hk
  box:=rfl
  busy:=rfl
  idle:=fun _=>rfl
  work:=fun i hi=>by cases hi
  down:=fun h=>by cases h
  upp:=fun _=>rfl
  clean:=fun _ _=>rfl
  cells:=by show (zav m.store.cells m.store.undo).length=11; rw [zbS]; exact h.cells
  right:=h.right
  nm:=h.nm
  undo:=fun q hq=>by cases hq
  past:=h.past
  falls:=h.falls
  gens:=⟨by show 0<=m.server.gen+1; omega,fun _=>hge.2.2 hu',fun h=>by cases h⟩
  clients:=fun i c hc=>by
   have hi:=h.clients i c hc
   have hgn:=hi.hgen
   refine ⟨hi.calls,hi.at_,hi.done,hi.most,hi.got,hi.step,hi.last,by show c.gen<=m.server.gen+1; omega,?_⟩
   cases hi.phase with
   | rest a b d e f=>exact .rest (by simp) (by simp) d e f
   | wait a b d e f g=>cases a
   | work a b d e f g k=>cases b
   | hear a b d e f=>exact .hear (by simp) (by simp) d e f
   | lost a b d e f g=>exact .lost (by simp) (by simp) d e f (fun _=>by show c.gen≠m.server.gen+1; omega) }
open Go Go.RowKit

theorem ze3 {cl:List Cn} {i k:Nat} {c:Cn} (h:k≠i):za6 (cl.set i c) k=za6 cl k:=by
 unfold za6
 rw [List.getD_eq_getElem?_getD,List.getD_eq_getElem?_getD,List.getElem?_set_ne (fun e=>h e.symm)]
theorem zbs {cl:List Cn} {i:Nat} {c:Cn} (h:cl[i]?=some c):za6 cl i=c.got.length:=by
 unfold za6
 rw [List.getD_eq_getElem?_getD,h]
 rfl
theorem zlL {X:Type} {cl:List X} {i k:Nat} {c c' d:X} (hc:cl[i]?=some c) (h:(cl.set i c')[k]?=some d):k=i/\d=c'∨k≠i/\cl[k]?=some d:=by
 by_cases e:k=i
 ·subst e
  have hl:k < cl.length:=(List.getElem?_eq_some_iff.1 hc).1
  rw [List.getElem?_set_self hl] at h
  exact .inl ⟨rfl,(Option.some.inj h).symm⟩
 ·rw [List.getElem?_set_ne (fun x=>e x.symm)] at h
  exact .inr ⟨e,h⟩
theorem zgV {cl:List Cn} {i:Nat} {c c':Cn} (hc:cl[i]?=some c) (hg:c'.got.length=c.got.length) (k:Nat):za6 (cl.set i c') k=za6 cl k:=by
 by_cases e:k=i
 ·subst e
  have hl:k < cl.length:=(List.getElem?_eq_some_iff.1 hc).1
  rw [zbs (c:=c') (List.getElem?_set_self hl),zbs hc,hg]
 ·exact ze3 e

theorem zkM {c:Cn} {me gen:Int} {up:Bool} {a:An} (hb:c.box=[zbF a]) (hw:zbp a=0) (h1:a.client=me) (h2:a.token=c.at_) (h3:c.sent=true) :
  zde c me gen up=(⟨c.calls,c.at_+1,false,c.gen,[],c.got++[a.reply]⟩,[],0):=by
 unfold zde
 rw [hb]
 simp only [zja hw]
 rw [if_pos (by exact ⟨trivial,h1,h2,h3⟩)]
theorem zee {c:Cn} {me gen:Int} {up:Bool} (hb:c.box=[]):zde c me gen up=if (c.calls.length:Int)<=c.at_ then (c,[],11) else if ¬ up then (c,[],10) else if c.sent/\c.gen=gen then (c,[],12) else (⟨c.calls,c.at_,true,gen,[],c.got⟩,zbv ⟨me,c.at_,c.calls.getD c.at_.toNat ⟨0,0,0,0⟩⟩,0):=by
 unfold zde
 rw [hb]

theorem zq6 {X:Type} {xs:List X} {n:Nat} {d:X} (h:n < xs.length):xs.take (n+1)=xs.take n++[xs.getD n d]:=by
 rw [List.take_add_one,List.getD_eq_getElem?_getD,List.getElem?_eq_getElem h]
 rfl

theorem zhe:∀ {n:Nat} {ks:List Nat},ks.Nodup->(∀ k ∈ ks,k < n)->ks.length<=n
 | 0,ks,_,h=>by
  cases ks with
  | nil=>exact Nat.le_refl _
  | cons k ks=>exact absurd (h k (by simp)) (by omega)
 | n+1,ks,hd,h=>by
  have h1:=zhe (n:=n) (ks:=ks.erase n) (hd.erase n) (fun k hk=>by
   have h2:=h k (List.mem_of_mem_erase hk)
   have h3:k≠n:=fun e=>by subst e; exact absurd hk (hd.not_mem_erase)
   omega)
  by_cases hm:n ∈ ks
  ·have:=List.length_erase_of_mem hm
   omega
  ·rw [List.erase_of_not_mem hm] at h1
   omega

theorem zjo {l:List (List Cl)} (hl:zaG l) {m:Mc} {ks:List Nat} {bz:Option Nat} (h:MInv l m ks bz) (n:Int):∃ ks' bz',MInv l (doM m 1 n).1 ks' bz':=by
 unfold doM
 rw [if_pos rfl]
 by_cases hn:n < 0∨(m.clients.length:Int)<=n
 ·rw [if_pos hn]; exact ⟨ks,bz,h⟩
 rw [if_neg hn]
 obtain ⟨i,rfl⟩:∃ i:Nat,n=(i:Int):=⟨n.toNat,by omega⟩
 simp only [Int.toNat_natCast]
 have hi:i < m.clients.length:=by omega
 have hil:i < l.length:=by rw [<- h.nc]; exact hi
 obtain ⟨c,hc⟩:∃ c,m.clients[i]?=some c:=⟨_,List.getElem?_eq_getElem hi⟩
 have hgd:m.clients.getD i (zbO [])=c:=by rw [List.getD_eq_getElem?_getD,hc]; rfl
 rw [hgd]
 have ci:=h.clients i c hc
 have h8:(l.getD i []).length<=8:=(hl.2 _ (zfI hil)).1
 generalize hG:zde c (i:Int) m.server.gen m.up=G
 have hsame:G.2.2≠0->∃ ks' bz',MInv l (if G.2.2≠0 then (m,G.2.2) else if G.2.1≠[] then if (zbZ m.server G.2.1).2≠0 then (m,(zbZ m.server G.2.1).2) else ({ m with server:=(zbZ m.server G.2.1).1,clients:=m.clients.set i G.1 },0) else ({ m with clients:=m.clients.set i G.1 },0)).1 ks' bz':=fun hne=>by
  rw [if_pos hne]; exact ⟨ks,bz,h⟩
 have hempty:c.box=[]->i ∉ ks->bz≠some i->(c.sent=true->m.up=true->c.gen≠m.server.gen) ->
   ∃ ks' bz',MInv l (if G.2.2≠0 then (m,G.2.2) else if G.2.1≠[] then if (zbZ m.server G.2.1).2≠0 then (m,(zbZ m.server G.2.1).2) else ({ m with server:=(zbZ m.server G.2.1).1,clients:=m.clients.set i G.1 },0) else ({ m with clients:=m.clients.set i G.1 },0)).1 ks' bz':=by
  intro hb hk hz hs
  rw [zee hb] at hG
  by_cases hd:(c.calls.length:Int)<=c.at_
  ·rw [if_pos hd] at hG; exact hsame (by rw [<- hG]; simp)
  rw [if_neg hd] at hG
  by_cases hu:m.up=true
  case neg=>rw [if_pos hu] at hG; exact hsame (by rw [<- hG]; simp)
  rw [if_neg (fun x=>x hu)] at hG
  by_cases hw:c.sent=true/\c.gen=m.server.gen
  ·rw [if_pos hw] at hG; exact hsame (by rw [<- hG]; simp)
  rw [if_neg hw] at hG
  have hcalls:=ci.calls
  have hat:=ci.at_
  have hlt:c.got.length < (l.getD i []).length:=by rw [<- hcalls]; omega
  have hreq:(⟨(i:Int),c.at_,c.calls.getD c.at_.toNat ⟨0,0,0,0⟩⟩:Rq)=zax l i c.got.length:=by
   unfold zax
   rw [hcalls,hat]
   rfl
  rw [hreq] at hG
  subst hG
  have hks:ks.length < 3:=by
   have hsub:(i::ks).Nodup:=List.nodup_cons.2 ⟨hk,h.nodup⟩
   have hle:(i::ks).length<=l.length:=zhe hsub (fun x hx=>by
    rcases List.mem_cons.1 hx with rfl | hx
    ·exact hil
    ·exact h.ksl x hx)
   have:=hl.1
   simp at hle
   omega
  have hbl:m.server.box.length=ks.length:=by rw [h.box,List.length_map]
  have hcome:zbZ m.server (zbv (zax l i c.got.length))=({ m.server with box:=m.server.box++[zbv (zax l i c.got.length)] },0):=by
   unfold zbZ
   rw [if_neg (by omega)]
  rw [if_neg (by simp),if_pos (by simp [zbv])]
  simp only []
  rw [hcome,if_neg (by simp)]
  refine ⟨ks++[i],bz,?_⟩
  have hgs:=fun k=>zgV (c':=(⟨c.calls,c.at_,true,m.server.gen,[],c.got⟩:Cn)) hc rfl k
  exact {
   nc:=by show (m.clients.set i _).length=_; rw [List.length_set]; exact h.nc
   nodup:=by
    rw [List.nodup_append]
    refine ⟨h.nodup,by simp,fun x hx y hy e=>?_⟩
    simp at hy
    subst hy
    subst e
    exact hk hx
   ksl:=fun k hx=>by
    rcases List.mem_append.1 hx with hx | hx
    ·exact h.ksl k hx
    ·simp at hx; subst hx; exact hil
   box:=by
    show m.server.box++[zbv (zax l i c.got.length)]=_
    rw [List.map_append,h.box]
    simp only [hgs]
    rw [List.map_cons,List.map_nil,zbs hc]
   busy:=h.busy
   idle:=fun hz=>by
    show ({ m.server with box:=m.server.box++[zbv (zax l i c.got.length)] }:Sv)=zbQ m.server.gen (m.server.box++[zbv (zax l i c.got.length)])
    rw [h.idle hz]
    rfl
   work:=fun j hj=>by
    obtain ⟨w1,w2,w3,w4,w5⟩:=h.work j hj
    exact ⟨w1,by show m.server.now=zax l j (za6 (m.clients.set i _) j); rw [hgs]; exact w2,w3,w4,w5⟩
   down:=fun hd=>absurd hd (by simp [hu])
   upp:=h.upp
   clean:=h.clean
   cells:=h.cells
   right:=h.right
   nm:=h.nm
   undo:=h.undo
   past:=h.past
   falls:=h.falls
   gens:=h.gens
   clients:=fun k d hd=>by
    rcases zlL hc hd with ⟨rfl,rfl⟩ | ⟨hne,hd⟩
    ·exact ⟨hcalls,hat,ci.done,ci.most,ci.got,ci.step,ci.last,Int.le_refl _,.wait (by simp) hz rfl rfl rfl hlt⟩
    ·refine (h.clients k d hd).other rfl rfl rfl ?_ Iff.rfl
     simp [hne] }
 cases ci.phase with
 | rest a b d e f=>exact hempty e a b (fun x=>by rw [d] at x; cases x)
 | wait a b d e f g =>
  refine hsame ?_
  rw [<- hG,zee f]
  have hcalls:=ci.calls
  have hat:=ci.at_
  rw [if_neg (by rw [hcalls,hat]; omega)]
  by_cases hu:m.up=true
  ·rw [if_neg (fun x=>x hu),if_pos ⟨d,e⟩]; simp
  ·rw [if_pos hu]; simp
 | work a b d e f g k =>
  refine hsame ?_
  rw [<- hG,zee f]
  have hcalls:=ci.calls
  have hat:=ci.at_
  rw [if_neg (by rw [hcalls,hat]; omega)]
  by_cases hu:m.up=true
  ·rw [if_neg (fun x=>x hu),if_pos ⟨d,e⟩]; simp
  ·rw [if_pos hu]; simp
 | lost a b d e f g=>exact hempty e a b (fun _=>g)
 | hear a b d e f =>
  have htl:=zdu m.store.past i
  have hmost:=ci.most
  have hw:=zh0 hl h.past hil (t:=c.got.length) (by omega) (by omega)
  rw [zkM f hw rfl ci.at_.symm d] at hG
  subst hG
  rw [if_neg (by simp),if_neg (by simp)]
  simp only []
  refine ⟨ks,bz,?_⟩
  have hgn:∀ k,k≠i->za6 (m.clients.set i (⟨c.calls,c.at_+1,false,c.gen,[],c.got++[(told m.store.past i).getD c.got.length ⟨0,0⟩]⟩:Cn)) k=za6 m.clients k:=fun k hk=>ze3 hk
  exact {
   nc:=by show (m.clients.set i _).length=_; rw [List.length_set]; exact h.nc
   nodup:=h.nodup
   ksl:=h.ksl
   box:=by
    show m.server.box=_
    rw [h.box]
    refine List.map_congr_left fun k hk=>?_
    rw [hgn k (fun e=>by subst e; exact a hk)]
   busy:=h.busy
   idle:=h.idle
   work:=fun j hj=>by
    obtain ⟨w1,w2,w3,w4,w5⟩:=h.work j hj
    exact ⟨w1,by show m.server.now=zax l j (za6 (m.clients.set i _) j); rw [hgn j (fun e=>by subst e; exact b hj)]; exact w2,w3,w4,w5⟩
   down:=h.down
   upp:=h.upp
   clean:=h.clean
   cells:=h.cells
   right:=h.right
   nm:=h.nm
   undo:=h.undo
   past:=h.past
   falls:=h.falls
   gens:=h.gens
   clients:=fun k x hx=>by
    rcases zlL hc hx with ⟨rfl,rfl⟩ | ⟨hne,hx⟩
    ·have hgl:(c.got++[(told m.store.past k).getD c.got.length ⟨0,0⟩]).length=c.got.length+1:=by simp
     refine ⟨ci.calls,?_,ci.done,ci.most,?_,.inl ?_,ci.last,ci.hgen,.rest a b rfl rfl ?_⟩
     ·show c.at_+1=_; rw [hgl,ci.at_]; omega
     ·show c.got++_=_
      rw [hgl,zq6 (by omega:c.got.length < (told m.store.past k).length),<- ci.got]
     ·show _=List.length _; rw [hgl]; exact e
     ·show _=List.length _; rw [hgl]; exact e
    ·exact h.clients k x hx }
open Go Go.RowKit

theorem zf1 {s:St} {v:Sv} {q:Int×Int} {rest:List (Int×Int)} (hb:v.busy=true) (hp:v.plan=q::rest):zaI s v=(zaP s q,{ v with plan:=rest },[],0):=by
 unfold zaI
 rw [if_pos hb,hp]
theorem zfp {s:St} {v:Sv} (hb:v.busy=true) (hp:v.plan=[]):zaI s v=(zdQ s v.now v.says,zbQ v.gen v.box,zbF ⟨v.now.client,v.now.token,v.says⟩,0):=by
 unfold zaI
 rw [if_pos hb,hp]
theorem zgM {s:St} {v:Sv} (hb:v.busy=false) (hp:v.box=[]):zaI s v=(s,v,[],12):=by
 unfold zaI
 rw [if_neg (by simp [hb]),hp]
theorem serve_take {s:St} {v:Sv} {r:Rq} {rest:List (List UInt8)} (hb:v.busy=false) (hp:v.box=zbv r::rest) (hr:zbI r=0) :
  zaI s v=if (lastAn s.answers r.client).2=true/\r.token<=(lastAn s.answers r.client).1.token then
   if (lastAn s.answers r.client).1.token=r.token then (s,{ v with box:=rest },zbF (lastAn s.answers r.client).1,0) else (s,{ v with box:=rest },[],0)
   else (s,{ v with box:=rest,busy:=true,now:=r,plan:=zbE (zbg s.cells) r.call,says:=(zaO (zbg s.cells) r.call).2 },[],0):=by
 unfold zaI
 rw [if_neg (by simp [hb]),hp]
 simp only [zo0 hr]
 rw [if_neg (by simp)]
theorem zlI (s:St) (q:Int×Int) (rest:List (Int×Int)):zav (zaP s q).cells rest=zav s.cells (q::rest):=by
 unfold zaP
 by_cases h:0<=q.1/\q.1 < (s.cells.length:Int)
 ·rw [if_pos h]; rfl
 ·rw [if_neg h]
  show zav s.cells rest=zav (zc1 s.cells q) rest
  rw [show zc1 s.cells q=s.cells by unfold zc1; rw [if_neg h]]

theorem zhg {a:An} (h0:0<=a.client) (h1:a.client < 3):(((zbF a).getD 1 0).toNat:Int)=a.client:=zbA h0 (by omega)

theorem zjK {l:List (List Cl)} (hl:zaG l) {m:Mc} {ks:List Nat} {bz:Option Nat} (h:MInv l m ks bz) (n:Int):∃ ks' bz',MInv l (doM m 2 n).1 ks' bz':=by
 unfold doM
 rw [if_neg (by decide),if_pos rfl]
 by_cases hu:m.up=true
 case neg=>rw [if_pos hu]; exact ⟨ks,bz,h⟩
 rw [if_neg (fun x=>x hu)]
 have hokn:=zfq hl h.past
 have h3:=hl.1
 cases bz with
 | some i =>
  have hbusy:m.server.busy=true:=h.busy
  obtain ⟨hi,w2,w3,w4,w5⟩:=h.work i rfl
  obtain ⟨c,hc⟩:∃ c,m.clients[i]?=some c:=⟨_,List.getElem?_eq_getElem (by rw [h.nc]; exact hi)⟩
  have ci:=h.clients i c hc
  rw [zbs hc] at w2
  cases hp:m.server.plan with
  | cons q rest =>
   rw [zf1 hbusy hp]
   simp only []
   rw [if_neg (by simp),if_neg (by simp)]
   refine ⟨ks,some i,?_⟩
   have hbk:=znR m.store q
   have hcells:zav (zaP m.store q).cells (zaP m.store q).undo=zav m.store.cells m.store.undo:=congrArg St.cells hbk
   have hpast:(zaP m.store q).past=m.store.past:=by unfold zaP; split <;> rfl
   have hansw:(zaP m.store q).answers=m.store.answers:=by unfold zaP; split <;> rfl
   have hund:∀ x ∈ (zaP m.store q).undo,0<=x.1/\x.1<=10:=by
    intro x hx
    unfold zaP at hx
    split at hx
    ·rename_i hr
     have hx':x ∈ (q.1,m.store.cells.getD q.1.toNat 0)::m.store.undo:=hx
     rcases List.mem_cons.1 hx' with rfl | hx'
     ·have:=h.cells; simp only []; omega
     ·exact h.undo x hx'
    ·exact h.undo x hx
   exact {
    nc:=h.nc
    nodup:=h.nodup
    ksl:=h.ksl
    box:=h.box
    busy:=h.busy
    idle:=fun x=>by cases x
    work:=fun j hj=>by
     obtain ⟨v1,v2,v3,v4,v5⟩:=h.work j hj
     refine ⟨v1,v2,?_,?_,?_⟩
     ·show m.server.says=(zaO (names (zaP m.store q).past) m.server.now.call).2
      rw [hpast]; exact v3
     ·show zav (zaP m.store q).cells rest=zav (zav (zaP m.store q).cells (zaP m.store q).undo) (zbE (names (zaP m.store q).past) m.server.now.call)
      rw [zlI,hcells,hpast,<- hp]; exact v4
     ·show rest.length<=3
      rw [hp] at v5; simp at v5; omega
    down:=fun x=>absurd x (by simp [hu])
    upp:=h.upp
    clean:=fun _ x=>by cases x
    cells:=by show (zaP m.store q).cells.length=11; rw [zlc]; exact h.cells
    right:=by show zd8 (zav (zaP m.store q).cells (zaP m.store q).undo)=0; rw [hcells]; exact h.right
    nm:=by show zbg (zav (zaP m.store q).cells (zaP m.store q).undo)=names (zaP m.store q).past; rw [hcells,hpast]; exact h.nm
    undo:=hund
    past:=by show zg6 l (zaP m.store q).past; rw [hpast]; exact h.past
    falls:=h.falls
    gens:=h.gens
    clients:=fun k d hd=>by
     show CInv l (zaP m.store q).past (zaP m.store q).answers m.server.gen m.up ks (some i) k d
     rw [hpast,hansw]
     exact h.clients k d hd }
  | nil =>
   rw [zfp hbusy hp]
   have hph:i ∉ ks/\c.sent=true/\c.gen=m.server.gen/\c.box=[]/\c.got.length < (l.getD i []).length/\(zaA m.store.past i).length=c.got.length:=by
    cases ci.phase with
    | rest a b=>exact absurd rfl b
    | wait a b=>exact absurd rfl b
    | work a b d e f g k=>exact ⟨a,d,e,f,g,k⟩
    | hear a b=>exact absurd rfl b
    | lost a b=>exact absurd rfl b
   obtain ⟨p1,p2,p3,p4,p5,p6⟩:=hph
   have hcall:=zel hl hi p5
   have hcl:m.server.now.client=(i:Int):=by rw [w2]; rfl
   have htk:m.server.now.token=(c.got.length:Int):=by rw [w2]; rfl
   have hne:zbF ⟨m.server.now.client,m.server.now.token,m.server.says⟩≠[]:=by simp [zbF]
   have hto:((zbF ⟨m.server.now.client,m.server.now.token,m.server.says⟩).getD 1 0).toNat=i:=by
    have:=zhg (a:=⟨m.server.now.client,m.server.now.token,m.server.says⟩) (by show 0<=m.server.now.client; rw [hcl]; omega) (by show m.server.now.client < 3; rw [hcl]; omega)
    rw [hcl] at this ⊢
    have this2:(((zbF ⟨(i:Int),m.server.now.token,m.server.says⟩).getD 1 0).toNat:Int)=(i:Int):=this
    omega
   simp only []
   rw [if_neg (by simp),if_pos hne,hto,if_pos (by rw [h.nc]; exact hi)]
   have hgd:m.clients.getD i (zbO [])=c:=by rw [List.getD_eq_getElem?_getD,hc]; rfl
   rw [hgd]
   have hcome:zcE c (zbF ⟨m.server.now.client,m.server.now.token,m.server.says⟩)={ c with box:=[zbF ⟨m.server.now.client,m.server.now.token,m.server.says⟩] }:=by
    unfold zcE
    rw [p4]
    rfl
   rw [hcome]
   refine ⟨ks,none,?_⟩
   -- what cells are now
   have hcells:m.store.cells=zav (zav m.store.cells m.store.undo) (zbE (zbg (zav m.store.cells m.store.undo)) m.server.now.call):=by
    rw [hp] at w4
    rw [h.nm]
    exact w4
   have hpm:=zn8 (c:=m.server.now.call) h.right (by rw [w2]; exact hcall)
   have hpm1:zd8 m.store.cells=0:=by rw [hcells]; exact hpm.1
   have hpm2:zbg m.store.cells=(zaO (names m.store.past) m.server.now.call).1:=by
    have h2:zbg (zav (zav m.store.cells m.store.undo) (zbE (zbg (zav m.store.cells m.store.undo)) m.server.now.call))=(zaO (zbg (zav m.store.cells m.store.undo)) m.server.now.call).1:=hpm.2
    rw [<- hcells,h.nm] at h2
    exact h2
   have hmi:zaA (m.store.past++[m.server.now]) i=zaA m.store.past i++[m.server.now]:=by rw [zgr,if_pos hcl]
   have hti:told (m.store.past++[m.server.now]) i=told m.store.past i++[m.server.says]:=by rw [told_snoc,if_pos hcl,<- w3]
   have htl:=zdu m.store.past i
   have hgn:∀ k,za6 (m.clients.set i { c with box:=[zbF ⟨m.server.now.client,m.server.now.token,m.server.says⟩] }) k=za6 m.clients k:=fun k=>zgV (c':={ c with box:=[zbF ⟨m.server.now.client,m.server.now.token,m.server.says⟩] }) hc rfl k
   exact {
    nc:=by show (m.clients.set i _).length=_; rw [List.length_set]; exact h.nc
    nodup:=h.nodup
    ksl:=h.ksl
    box:=by show m.server.box=_; rw [h.box]; simp only [hgn]
    busy:=rfl
    idle:=fun _=>rfl
    work:=fun j hj=>by cases hj
    down:=fun x=>absurd x (by simp [hu])
    upp:=h.upp
    clean:=fun _ _=>rfl
    cells:=h.cells
    right:=hpm1
    nm:=by show zbg m.store.cells=names (m.store.past++[m.server.now]); rw [names_snoc]; exact hpm2
    undo:=fun q hq=>by cases hq
    past:=fun r hr=>by
     have hr':r ∈ m.store.past++[m.server.now]:=hr
     rcases List.mem_append.1 hr' with hr' | hr'
     ·exact h.past r hr'
     ·simp at hr'
      exact ⟨i,c.got.length,hi,p5,by rw [hr',w2]⟩
    falls:=h.falls
    gens:=h.gens
    clients:=fun k d hd=>by
     show CInv l (m.store.past++[m.server.now]) (zbW m.store.answers ⟨m.server.now.client,m.server.now.token,m.server.says⟩) m.server.gen m.up ks none k d
     rcases zlL hc hd with ⟨rfl,rfl⟩ | ⟨hne2,hd⟩
     ·have hml:(zaA (m.store.past++[m.server.now]) k).length=c.got.length+1:=by rw [hmi,List.length_append,p6]; rfl
      have hta:(told (m.store.past++[m.server.now]) k).getD c.got.length ⟨0,0⟩=m.server.says:=by
       rw [hti,List.getD_eq_getElem?_getD,List.getElem?_append_right (by omega),show c.got.length - (told m.store.past k).length=0 by omega]
       rfl
      refine ⟨ci.calls,ci.at_,?_,by rw [hml]; omega,?_,.inr hml,?_,ci.hgen,.hear p1 (by simp) p2 hml ?_⟩
      ·rw [hml,List.range_succ,List.map_append,hmi,ci.done,p6,w2]
       simp
      ·show c.got=_
       rw [hti,List.take_append_of_le_length (show c.got.length<=(told m.store.past k).length by omega)]
       exact ci.got
      ·rw [hml,if_neg (by omega),Nat.add_sub_cancel,hta]
       have:=znB m.store.answers ⟨m.server.now.client,m.server.now.token,m.server.says⟩
       rw [hcl,htk] at this ⊢
       exact this
      ·show [zbF ⟨m.server.now.client,m.server.now.token,m.server.says⟩]=_
       rw [hta,hcl,htk]
     ·have hkc:m.server.now.client≠(k:Int):=by rw [hcl]; omega
      refine (h.clients k d hd).other (by rw [zgr,if_neg hkc]) (by rw [told_snoc,if_neg hkc]) (znS _ _ _ (fun e=>hkc e.symm)) Iff.rfl ?_
      simp
      exact fun e=>hne2 e.symm }
 | none =>
  have hbusy:m.server.busy=false:=h.busy
  have hsv:=h.idle rfl
  have hundo:=h.clean hu rfl
  cases ks with
  | nil =>
   rw [zgM hbusy (by rw [h.box]; rfl)]
   exact ⟨[],none,h⟩
  | cons k ks =>
   have hk:k < l.length:=h.ksl k (by simp)
   obtain ⟨c,hc⟩:∃ c,m.clients[k]?=some c:=⟨_,List.getElem?_eq_getElem (by rw [h.nc]; exact hk)⟩
   have ci:=h.clients k c hc
   have hph:c.sent=true/\c.gen=m.server.gen/\c.box=[]/\c.got.length < (l.getD k []).length:=by
    cases ci.phase with
    | rest a=>exact absurd (by simp) a
    | wait a b d e f g=>exact ⟨d,e,f,g⟩
    | work a=>exact absurd (by simp) a
    | hear a=>exact absurd (by simp) a
    | lost a=>exact absurd (by simp) a
   obtain ⟨p2,p3,p4,p5⟩:=hph
   have hbox:m.server.box=zbv (zax l k c.got.length)::ks.map (fun k=>zbv (zax l k (za6 m.clients k))):=by
    rw [h.box,List.map_cons,zbs hc]
   have hnd:=List.nodup_cons.1 h.nodup
   have hstep:=ci.step
   have hlast:=ci.last
   have htl:=zdu m.store.past k
   have hS:=serve_take (s:=m.store) hbusy hbox (zgi hl hk p5)
   have hrc:(zax l k c.got.length).client=(k:Int):=rfl
   have hrt:(zax l k c.got.length).token=(c.got.length:Int):=rfl
   rw [hrc,hrt,hlast] at hS
   by_cases hd:(zaA m.store.past k).length=c.got.length+1
   ·-- it was done: the same answer again
    rw [if_neg (show ¬ (zaA m.store.past k).length=0 by omega),hd,Nat.add_sub_cancel] at hS
    rw [if_pos (by exact ⟨rfl,Int.le_refl _⟩),if_pos (by rfl)] at hS
    rw [hS]
    simp only []
    have hne:zbF ⟨(k:Int),(c.got.length:Int),(told m.store.past k).getD c.got.length ⟨0,0⟩⟩≠[]:=by simp [zbF]
    have hto:((zbF ⟨(k:Int),(c.got.length:Int),(told m.store.past k).getD c.got.length ⟨0,0⟩⟩).getD 1 0).toNat=k:=by
     have:=zhg (a:=⟨(k:Int),(c.got.length:Int),(told m.store.past k).getD c.got.length ⟨0,0⟩⟩) (by show (0:Int)<=k; omega) (by show (k:Int) < 3; omega)
     have this2:(((zbF ⟨(k:Int),(c.got.length:Int),(told m.store.past k).getD c.got.length ⟨0,0⟩⟩).getD 1 0).toNat:Int)=(k:Int):=this
     omega
    rw [if_neg (by simp),if_pos hne,hto,if_pos (by rw [h.nc]; exact hk)]
    have hgd:m.clients.getD k (zbO [])=c:=by rw [List.getD_eq_getElem?_getD,hc]; rfl
    rw [hgd]
    have hcome:zcE c (zbF ⟨(k:Int),(c.got.length:Int),(told m.store.past k).getD c.got.length ⟨0,0⟩⟩)={ c with box:=[zbF ⟨(k:Int),(c.got.length:Int),(told m.store.past k).getD c.got.length ⟨0,0⟩⟩] }:=by
     unfold zcE
     rw [p4]
     rfl
    rw [hcome]
    have hgn:∀ j,za6 (m.clients.set k { c with box:=[zbF ⟨(k:Int),(c.got.length:Int),(told m.store.past k).getD c.got.length ⟨0,0⟩⟩] }) j=za6 m.clients j:=fun j=>zgV (c':={ c with box:=[zbF ⟨(k:Int),(c.got.length:Int),(told m.store.past k).getD c.got.length ⟨0,0⟩⟩] }) hc rfl j
    refine ⟨ks,none,?_⟩
    exact {
     nc:=by show (m.clients.set k _).length=_; rw [List.length_set]; exact h.nc
     nodup:=hnd.2
     ksl:=fun j hj=>h.ksl j (by simp [hj])
     box:=by show ks.map (fun k=>zbv (zax l k (za6 m.clients k)))=_; simp only [hgn]
     busy:=h.busy
     idle:=fun _=>by
      show ({ m.server with box:=ks.map (fun k=>zbv (zax l k (za6 m.clients k))) }:Sv)=zbQ m.server.gen _
      rw [hsv]; rfl
     work:=fun j hj=>by cases hj
     down:=fun x=>absurd x (by simp [hu])
     upp:=h.upp
     clean:=h.clean
     cells:=h.cells
     right:=h.right
     nm:=h.nm
     undo:=h.undo
     past:=h.past
     falls:=h.falls
     gens:=h.gens
     clients:=fun j d hj=>by
      rcases zlL hc hj with ⟨rfl,rfl⟩ | ⟨hne2,hj⟩
      ·exact ⟨ci.calls,ci.at_,ci.done,ci.most,ci.got,ci.step,ci.last,ci.hgen,.hear hnd.1 (by simp) p2 hd rfl⟩
      ·refine (h.clients j d hj).other rfl rfl rfl ?_ Iff.rfl
       simp [hne2] }
   ·-- it is new
    have hd0:(zaA m.store.past k).length=c.got.length:=by omega
    have hnot:¬ ((if (zaA m.store.past k).length=0 then (zeroAn,false) else (⟨k,((zaA m.store.past k).length - 1:Nat),(told m.store.past k).getD ((zaA m.store.past k).length - 1) ⟨0,0⟩⟩,true)).2=true /\
      (c.got.length:Int)<=(if (zaA m.store.past k).length=0 then (zeroAn,false) else ((⟨k,((zaA m.store.past k).length - 1:Nat),(told m.store.past k).getD ((zaA m.store.past k).length - 1) ⟨0,0⟩⟩:An),true)).1.token):=by
     by_cases hz:(zaA m.store.past k).length=0
     ·rw [if_pos hz]; simp
     ·rw [if_neg hz]
      simp only [true_and]
      omega
    rw [if_neg hnot] at hS
    rw [hS]
    simp only []
    rw [if_neg (by simp),if_neg (by simp)]
    refine ⟨ks,some k,?_⟩
    have hnames:zbg m.store.cells=names m.store.past:=by have:=h.nm; rw [hundo] at this; exact this
    exact {
     nc:=h.nc
     nodup:=hnd.2
     ksl:=fun j hj=>h.ksl j (by simp [hj])
     box:=rfl
     busy:=rfl
     idle:=fun x=>by cases x
     work:=fun j hj=>by
      obtain rfl:k=j:=by simpa using hj
      refine ⟨hk,?_,?_,?_,?_⟩
      ·show zax l k c.got.length=zax l k (za6 m.clients k); rw [zbs hc]
      ·show (zaO (zbg m.store.cells) (zax l k c.got.length).call).2=(zaO (names m.store.past) (zax l k c.got.length).call).2; rw [hnames]
      ·show zav m.store.cells (zbE (zbg m.store.cells) (zax l k c.got.length).call)=zav (zav m.store.cells m.store.undo) (zbE (names m.store.past) (zax l k c.got.length).call)
       rw [hundo,hnames]; rfl
      ·exact zjb _ _
     down:=fun x=>absurd x (by simp [hu])
     upp:=h.upp
     clean:=fun _ x=>by cases x
     cells:=h.cells
     right:=h.right
     nm:=h.nm
     undo:=h.undo
     past:=h.past
     falls:=h.falls
     gens:=h.gens
     clients:=fun j d hj=>by
      by_cases e:j=k
      ·subst e
       obtain rfl:c=d:=by rw [hc] at hj; exact Option.some.inj hj
       exact ⟨ci.calls,ci.at_,ci.done,ci.most,ci.got,ci.step,ci.last,ci.hgen,.work hnd.1 rfl p2 p3 p4 p5 hd0⟩
      ·refine (h.clients j d hj).other rfl rfl rfl ?_ ?_
       ·simp [e]
       ·simp; exact fun x=>e x.symm }

theorem znH {l:List (List Cl)} (hl:zaG l) {m:Mc} {ks:List Nat} {bz:Option Nat} (h:MInv l m ks bz) (kind n:Int):∃ ks' bz',MInv l (doM m kind n).1 ks' bz':=by
 by_cases h1:kind=1
 ·subst h1; exact zjo hl h n
 by_cases h2:kind=2
 ·subst h2; exact zjK hl h n
 unfold doM
 rw [if_neg h1,if_neg h2]
 by_cases h3:kind=3
 ·rw [if_pos h3]; exact zr8 h
 rw [if_neg h3]
 by_cases h4:kind=4
 ·rw [if_pos h4]; exact zhp h
 ·rw [if_neg h4]; exact ⟨ks,bz,h⟩
theorem zsd {l:List (List Cl)} (hl:zaG l) (steps:List (Int×Int)) {m:Mc} {ks:List Nat} {bz:Option Nat} (h:MInv l m ks bz):∃ ks' bz',MInv l (zcS m steps) ks' bz':=by
 induction steps generalizing m ks bz with
 | nil=>exact ⟨ks,bz,h⟩
 | cons s steps ih =>
  obtain ⟨ks',bz',h'⟩:=znH hl h s.1 s.2
  exact ih h'
theorem zpy {l:List (List Cl)} (hl:zaG l) (steps:List (Int×Int)):∃ ks bz,MInv l (zcS (zcJ l) steps) ks bz:=zsd hl steps (ztM l)

open Go Go.RowKit

structure SizeM (m:Mc) (k:Nat):Prop where
 undo:m.store.undo.length<=k
 answers:m.store.answers.length<=k
 past:m.store.past.length<=k
 box:m.server.box.length<=k
 each:∀ c ∈ m.clients,c.got.length<=k/\c.box.length<=k

theorem SizeM.mono {m:Mc} {k j:Nat} (h:SizeM m k) (hk:k<=j):SizeM m j :=
 ⟨Nat.le_trans h.undo hk,Nat.le_trans h.answers hk,Nat.le_trans h.past hk,Nat.le_trans h.box hk,fun c hc=>⟨Nat.le_trans (h.each c hc).1 hk,Nat.le_trans (h.each c hc).2 hk⟩⟩
theorem zox (s:St) (p:Int×Int):(zaP s p).undo.length<=s.undo.length+1/\(zaP s p).answers=s.answers/\(zaP s p).past=s.past:=by
 unfold zaP
 split
 ·exact ⟨by simp,rfl,rfl⟩
 ·exact ⟨by omega,rfl,rfl⟩

open Go Go.RowKit

open Go Go.RowKit

open Go Go.RowKit

def zfJ:List Cl->Int
 | []=>0
 | x::l=>if wrongCl x≠0 then wrongCl x else zfJ l
def errL:List (List Cl)->Int
 | []=>0
 | c::l=>if 8 < c.length then 4 else if zfJ c≠0 then zfJ c else errL l
def ze4 (l:List (List Cl)):Int:=if 3 < l.length then 5 else errL l

theorem zhP:∀ {c:List Cl},(∀ y ∈ c,wrongCl y=0)->zfJ c=0
 | [],_=>rfl
 | x::l,h=>by
  unfold zfJ
  rw [if_neg (by simp [h x (by simp)])]
  exact zhP fun y hy=>h y (by simp [hy])
theorem zkT:∀ {c:List Cl} {q:Nat} {y:Cl},(∀ (j:Nat) (z:Cl),j < q->c[j]?=some z->wrongCl z=0)->c[q]?=some y->wrongCl y≠0->zfJ c=wrongCl y
 | [],q,y,_,hy,_=>by simp at hy
 | x::l,0,y,_,hy,hw=>by
  simp at hy
  subst hy
  unfold zfJ
  rw [if_pos hw]
 | x::l,q+1,y,h,hy,hw=>by
  unfold zfJ
  rw [if_neg (by simp [h 0 x (by omega) rfl])]
  exact zkT (q:=q) (fun j z hj hz=>h (j+1) z (by omega) (by simpa using hz)) (by simpa using hy) hw
theorem zpb:∀ {l:List (List Cl)},(∀ c ∈ l,c.length<=8/\∀ x ∈ c,wrongCl x=0)->errL l=0
 | [],_=>rfl
 | c::l,h=>by
  obtain ⟨h1,h2⟩:=h c (by simp)
  unfold errL
  rw [if_neg (by omega),if_neg (by simp [zhP h2])]
  exact zpb fun d hd=>h d (by simp [hd])
theorem zlF:∀ {l:List (List Cl)} {k:Nat} {x:List Cl},(∀ (j:Nat) (y:List Cl),j < k->l[j]?=some y->y.length<=8/\∀ z ∈ y,wrongCl z=0)->l[k]?=some x->errL l=errL (x::l.drop (k+1))
 | [],k,x,_,hx=>by simp at hx
 | c::l,0,x,_,hx=>by
  simp at hx
  subst hx
  rfl
 | c::l,k+1,x,h,hx=>by
  obtain ⟨h1,h2⟩:=h 0 c (by omega) rfl
  have ih:=zlF (l:=l) (k:=k) (x:=x) (fun j y hj hy=>h (j+1) y (by omega) (by simpa using hy)) (by simpa using hx)
  rw [errL,if_neg (by omega),if_neg (by simp [zhP h2]),ih]
  rfl
theorem zp4 {l:List (List Cl)} (h:3 < l.length):ze4 l=5:=if_pos h
theorem zqs {l:List (List Cl)} (h3:¬ 3 < l.length) {k:Nat} {x:List Cl} (h:∀ (j:Nat) (y:List Cl),j < k->l[j]?=some y->y.length<=8/\∀ z ∈ y,wrongCl z=0) (hx:l[k]?=some x) (h8:8 < x.length):ze4 l=4:=by
 unfold ze4
 rw [if_neg h3,zlF h hx,errL,if_pos h8]
theorem zp8 {l:List (List Cl)} (h3:¬ 3 < l.length) {k q:Nat} {x:List Cl} {y:Cl} (h:∀ (j:Nat) (y:List Cl),j < k->l[j]?=some y->y.length<=8/\∀ z ∈ y,wrongCl z=0) (hx:l[k]?=some x) (h8:¬ 8 < x.length) (ha:∀ (j:Nat) (z:Cl),j < q->x[j]?=some z->wrongCl z=0) (hy:x[q]?=some y) (hw:wrongCl y≠0):ze4 l=wrongCl y:=by
 have hf:=zkT ha hy hw
 unfold ze4
 rw [if_neg h3,zlF h hx,errL,if_neg h8,if_pos (by rw [hf]; exact hw),hf]
theorem zjG {l:List (List Cl)} (h:zaG l):ze4 l=0:=by
 unfold ze4
 rw [if_neg (by have:=h.1; omega)]
 exact zpb h.2
open Go Go.RowKit

theorem zhW {P:Program} (w:World) (base:Nat) (t ty e:TypeId) (i:TypeInfo) (z:Value) (size bytes:Nat) (ht:P.underlying t=some (.slice e)) (hi:P.info? e=some i) (hz:i.zero=some z)
  (hsize:i.size=size) (hby:i.bytes=bytes) (hzs:z.cells.size=size) (hsz:0 < size)
  (v:Value) (n:Nat) (xs:List Value) (hown:w.ownsRow base e size v n xs) (u:Value) (m:Nat) (news:List Value) (hu:Row w size u m news) (h1:∀ u ∈ news,u.oneCell'=true)
  (hbytes:(n+m) * bytes<=140737488355328) (hpos:0 < bytes) (hbase:base<=w.heap.size) :
  ∃ v' w',(Builtin.append_ #[t,t] ty #[v,u]).run P w=.ok v' w'/\w'.ownsRow base e size v' (n+m) (xs++news)/\w.grownBy w' v.ownBlock/\(v'.ownBlock=v.ownBlock∨∀ g,v'.ownBlock=some g->w.heap.size<=g):=by
 obtain ⟨v',w',hrun,h2,h3⟩:=zdA (P:=P) w base t ty e i z size bytes ht hi hz hsize hby hzs hsz v n xs hown u m news hu h1 hbytes hpos hbase
 refine ⟨v',w',hrun,h2,h3,?_⟩
 have h63:n+m<=maxLen:=by
  have:n+m<=(n+m) * bytes:=Nat.le_mul_of_pos_right _ hpos
  unfold maxLen
  omega
 rcases hown.2 with ⟨rfl,hn⟩ | ⟨g,cap,cur,rfl,hbg,hg,hnc,hcm,hcs,htake⟩
 ·-- onto nothing: whatever comes is new
  subst hn
  have hx:xs=[]:=List.eq_nil_of_length_eq_zero (by simpa using hown.1)
  subst hx
  obtain ⟨v2,w2,hrun2,h4,_⟩:=zdA (P:=P) w w.heap.size t ty e i z size bytes ht hi hz hsize hby hzs hsz (.slice none 0 0) 0 [] (World.ownsRow_nil _ _ _ _) u m news hu h1 hbytes hpos (Nat.le_refl _)
  rw [hrun] at hrun2
  cases hrun2
  exact .inr fun g hgv=>(h4.lt g hgv).1
 ·obtain ⟨hl,ao,ucap,rfl,huc,hum,h0,hcell⟩:=hu
  cases ao with
  | none =>
   have hcap:=h0 rfl
   subst hcap
   have hm0:m=0:=by omega
   subst hm0
   have:=run_append_owned_none (P:=P) w base t ty e i size ht hi _ n xs hown
   rw [this] at hrun
   cases hrun
   exact .inl rfl
  | some ad =>
   have hsrc:∀ j u,news[j]?=some u->w.cell? (ad.add j)=some u:=fun j u hj=>by
    obtain ⟨b,off,e',hc'⟩:=hcell j u hj
    simp only [Option.some.injEq] at e'
    subst e'
    rw [add_plain]; exact hc'
   by_cases hroom:n+m<=cap
   ·subst hsize
    have hr:=run_append_room (P:=P) w t ty e i ht hi g n cap cur hg ad m ucap news hl hsrc h1 hroom (by rw [hcs,hl,<- Nat.add_mul]; exact Nat.mul_le_mul_right _ hroom)
    rw [hrun] at hr
    cases hr
    exact .inl rfl
   ·obtain ⟨v2,w2,hrun2,r1,_⟩:=run_append_arg_grows (P:=P) w t ty e i z size bytes ht hi hz hsize hby hzs hsz ⟨g,0,none⟩ n cap xs hown.1 (hown.cells (g:=g) rfl) ad m ucap news hl hsrc (by omega) h63 hbytes
    rw [hrun] at hrun2
    cases hrun2
    exact .inr fun g hgv=>(r1.lt g hgv).1

section
variable {P:Program} {ops:Array Oper} {rest:List Oper} {o:Oper} {a:Act} {w:World} {Q:Exit->Act->World->Prop}
theorem zgv (hgd:o.guard=none) (s x:Operand) (t:TypeId) (ho:o.op=.call { callee:=.builtin .append,args:=#[s,x],argTypes:=#[t,t] })
  (base:Nat) (e:TypeId) (i:TypeInfo) (z:Value) (size bytes:Nat) (ht:P.underlying t=some (.slice e)) (hi:P.info? e=some i) (hz:i.zero=some z)
  (hsize:i.size=size) (hby:i.bytes=bytes) (hzs:z.cells.size=size) (hsz:0 < size)
  (v:Value) (n:Nat) (xs:List Value) (hs:a.eval s=v) (hown:w.ownsRow base e size v n xs) (u:Value) (hx:a.eval x=u) (m:Nat) (news:List Value) (hu:Row w size u m news) (h1:∀ u ∈ news,u.oneCell'=true)
  (hbytes:(n+m) * bytes<=140737488355328) (hpos:0 < bytes) (hbase:base<=w.heap.size)
  (h:∀ v' w',w'.ownsRow base e size v' (n+m) (xs++news)->w.grownBy w' v.ownBlock->(v'.ownBlock=v.ownBlock∨∀ g,v'.ownBlock=some g->w.heap.size<=g)->wpList P ops Q rest (a.put o.dst v') w'):wpList P ops Q (o::rest) a w:=by
 refine wpList_plain hgd fun K hK=>?_
 obtain ⟨v',w',hrun,h2,h3,h4⟩:=zhW (P:=P) w base t o.type e i z size bytes ht hi hz hsize hby hzs hsz v n xs hown u m news hu h1 hbytes hpos hbase
 unfold Oper.wp
 simp [execOp,ho,resolve,invoke,builtin,hs,hx,hrun,Result.andThen]
 exact hK _ _ (h v' w' h2 h3 h4)
end
end Go.Mk

/- Texts of the proof, merged: Math11 Math12 Math13 Math25. -/
import Derived.Test.YtdmipnnfoolelafKTF

namespace Go.Mk
open Go Go.RowKit

def zcK (cl:List Cn) (k:Nat):Nat:=(cl.getD k (zcC [])).got.length

inductive Phase (l:List (List Cl)) (p:List Rq) (gen:Int) (up:Bool) (ks:List Nat) (bz:Option Nat) (i:Nat) (c:Cn):Prop
 | rest:i ∉ ks->bz≠some i->c.sent=false->c.box=[]->(za6 p i).length=c.got.length->Phase l p gen up ks bz i c
 | wait:i ∈ ks->bz≠some i->c.sent=true->c.gen=gen->c.box=[]->c.got.length < (l.getD i []).length->Phase l p gen up ks bz i c
 | work:i ∉ ks->bz=some i->c.sent=true->c.gen=gen->c.box=[]->c.got.length < (l.getD i []).length->(za6 p i).length=c.got.length->Phase l p gen up ks bz i c
 | hear:i ∉ ks->bz≠some i->c.sent=true->(za6 p i).length=c.got.length+1->c.box=[zce ⟨i,c.got.length,(zbX p i).getD c.got.length ⟨0,0⟩⟩]->Phase l p gen up ks bz i c
 | lost:i ∉ ks->bz≠some i->c.sent=true->c.box=[]->c.got.length < (l.getD i []).length->(up=true->c.gen≠gen)->Phase l p gen up ks bz i c

structure CInv (l:List (List Cl)) (p:List Rq) (an:List An) (gen:Int) (up:Bool) (ks:List Nat) (bz:Option Nat) (i:Nat) (c:Cn):Prop where
 calls:c.calls=l.getD i []
 at_:c.at_=(c.got.length:Int)
 done:za6 p i=(List.range (za6 p i).length).map (zbs l i)
 most:(za6 p i).length<=(l.getD i []).length
 got:c.got=(zbX p i).take c.got.length
 step:(za6 p i).length=c.got.length∨(za6 p i).length=c.got.length+1
 last:lastAn an i=if (za6 p i).length=0 then (zeroAn,false) else (⟨i,((za6 p i).length - 1:Nat),(zbX p i).getD ((za6 p i).length - 1) ⟨0,0⟩⟩,true)
 hgen:c.gen<=gen
 phase:Phase l p gen up ks bz i c

structure MInv (l:List (List Cl)) (m:Mc) (ks:List Nat) (bz:Option Nat):Prop where
 nc:m.clients.length=l.length
 nodup:ks.Nodup
 ksl:∀ k ∈ ks,k < l.length
 box:m.server.box=ks.map fun k=>zc0 (zbs l k (zcK m.clients k))
 busy:m.server.busy=bz.isSome
 idle:bz=none->m.server=zcU m.server.gen m.server.box
 work:∀ i,bz=some i->i < l.length/\m.server.now=zbs l i (zcK m.clients i)/\m.server.says=(za5 (zcu m.store.past) m.server.now.call).2 /\
  zao m.store.cells m.server.plan=zao (zao m.store.cells m.store.undo) (za8 (zcu m.store.past) m.server.now.call)/\m.server.plan.length<=3
 down:m.up=false->ks=[]/\bz=none/\1<=m.pause/\m.pause<=3
 upp:m.up=true->m.pause=0
 clean:m.up=true->bz=none->m.store.undo=[]
 cells:m.store.cells.length=11
 right:zb8 (zao m.store.cells m.store.undo)=0
 nm:zaZ (zao m.store.cells m.store.undo)=zcu m.store.past
 undo:∀ q ∈ m.store.undo,0<=q.1/\q.1<=10
 past:zg9 l m.store.past
 falls:0<=m.falls/\m.falls<=6
 gens:0<=m.server.gen/\(m.up=true->m.server.gen=m.falls)/\(m.up=false->m.server.gen+1=m.falls)
 clients:∀ i c,m.clients[i]?=some c->CInv l m.store.past m.store.answers m.server.gen m.up ks bz i c

theorem znv (l:List (List Cl)):MInv l (newMc l) [] none where
 nc:=by simp [newMc]
 nodup:=List.nodup_nil
 ksl:=fun k hk=>by cases hk
 box:=rfl
 busy:=rfl
 idle:=fun _=>rfl
 work:=fun i hi=>by cases hi
 down:=fun h=>by cases h
 upp:=fun _=>rfl
 clean:=fun _ _=>rfl
 cells:=rfl
 right:=by show zb8 (zao (List.replicate 11 0) [])=0; decide
 nm:=by show zaZ (zao (List.replicate 11 0) [])=[]; decide
 undo:=fun q hq=>by cases hq
 past:=fun r hr=>by cases hr
 falls:=⟨Int.le_refl _,by show (0:Int)<=6; decide⟩
 gens:=⟨Int.le_refl _,fun _=>rfl,fun h=>by cases h⟩
 clients:=fun i c hc=>by
  have hc':(l.map zcC)[i]?=some c:=hc
  rw [List.getElem?_map] at hc'
  cases hg:l[i]? with
  | none=>rw [hg] at hc'; cases hc'
  | some cs =>
   rw [hg] at hc'
   simp at hc'
   subst hc'
   have hd:l.getD i []=cs:=by simp [hg]
   exact ⟨hd.symm,rfl,rfl,Nat.zero_le _,rfl,.inl rfl,rfl,Int.le_refl _,.rest (by simp) (by simp) rfl rfl rfl⟩

theorem Phase.other {l:List (List Cl)} {p p':List Rq} {gen:Int} {up:Bool} {ks ks':List Nat} {bz bz':Option Nat} {i:Nat} {c:Cn} (h:Phase l p gen up ks bz i c)
  (hm:za6 p' i=za6 p i) (ht:zbX p' i=zbX p i) (hk:i ∈ ks'↔i ∈ ks) (hb:bz'=some i↔bz=some i):Phase l p' gen up ks' bz' i c:=by
 cases h with
 | rest a b d e f=>exact .rest (fun x=>a (hk.1 x)) (fun x=>b (hb.1 x)) d e (by rw [hm]; exact f)
 | wait a b d e f g=>exact .wait (hk.2 a) (fun x=>b (hb.1 x)) d e f g
 | work a b d e f g k=>exact .work (fun x=>a (hk.1 x)) (hb.2 b) d e f g (by rw [hm]; exact k)
 | hear a b d e f=>exact .hear (fun x=>a (hk.1 x)) (fun x=>b (hb.1 x)) d (by rw [hm]; exact e) (by rw [ht]; exact f)
 | lost a b d e f g=>exact .lost (fun x=>a (hk.1 x)) (fun x=>b (hb.1 x)) d e f g
theorem CInv.other {l:List (List Cl)} {p p':List Rq} {an an':List An} {gen:Int} {up:Bool} {ks ks':List Nat} {bz bz':Option Nat} {i:Nat} {c:Cn} (h:CInv l p an gen up ks bz i c)
  (hm:za6 p' i=za6 p i) (ht:zbX p' i=zbX p i) (ha:lastAn an' i=lastAn an i) (hk:i ∈ ks'↔i ∈ ks) (hb:bz'=some i↔bz=some i):CInv l p' an' gen up ks' bz' i c :=
 ⟨h.calls,h.at_,by rw [hm]; exact h.done,by rw [hm]; exact h.most,by rw [ht]; exact h.got,by rw [hm]; exact h.step,by rw [hm,ht,ha]; exact h.last,h.hgen,h.phase.other hm ht hk hb⟩

theorem zmM (f:Int):1<=zfV f/\zfV f<=3:=by
 unfold zfV
 repeat' split
 all_goals omega

theorem zmI {l:List (List Cl)} {m:Mc} {ks:List Nat} {bz:Option Nat} (h:MInv l m ks bz):∃ ks' bz',MInv l (ze6 m).1 ks' bz':=by
 unfold ze6
 by_cases hu:m.up=true
 case neg=>rw [if_pos hu]; exact ⟨ks,bz,h⟩
 rw [if_neg (by simpa using hu)]
 by_cases hf:6<=m.falls
 ·rw [if_pos hf]; exact ⟨ks,bz,h⟩
 rw [if_neg hf]
 refine ⟨[],none,?_⟩
 have hp:=zmM (m.falls+1)
 have hfl:=h.falls
 have hge:=h.gens
 exact {
  nc:=h.nc
  nodup:=List.nodup_nil
  ksl:=fun k hk=>by cases hk
  box:=rfl
  busy:=rfl
  idle:=fun _=>rfl
  work:=fun i hi=>by cases hi
  down:=fun _=>⟨rfl,rfl,hp.1,hp.2⟩
  upp:=fun h=>by cases h
  clean:=fun h=>by cases h
  cells:=h.cells
  right:=h.right
  nm:=h.nm
  undo:=h.undo
  past:=h.past
  falls:=by show 0<=m.falls+1/\m.falls+1<=6; omega
  gens:=⟨hge.1,(fun h=>by cases h),fun _=>by show m.server.gen+1=m.falls+1; rw [hge.2.1 hu]⟩
  clients:=fun i c hc=>by
   have hi:=h.clients i c hc
   refine ⟨hi.calls,hi.at_,hi.done,hi.most,hi.got,hi.step,hi.last,hi.hgen,?_⟩
   cases hi.phase with
   | rest a b d e f=>exact .rest (by simp) (by simp) d e f
   | wait a b d e f g=>exact .lost (by simp) (by simp) d f g (fun h=>by cases h)
   | work a b d e f g k=>exact .lost (by simp) (by simp) d f g (fun h=>by cases h)
   | hear a b d e f=>exact .hear (by simp) (by simp) d e f
   | lost a b d e f g=>exact .lost (by simp) (by simp) d e f (fun h=>by cases h) }

theorem zmG {l:List (List Cl)} {m:Mc} {ks:List Nat} {bz:Option Nat} (h:MInv l m ks bz):∃ ks' bz',MInv l (zfC m) ks' bz':=by
 unfold zfC
 by_cases hu:m.up=true
 ·rw [if_pos hu]; exact ⟨ks,bz,h⟩
 rw [if_neg hu]
 have hu':m.up=false:=by simpa using hu
 obtain ⟨rfl,rfl,hp1,hp2⟩:=h.down hu'
 by_cases hp:1 < m.pause
 ·rw [if_pos hp]
  exact ⟨[],none,{ h with down:=fun _=>⟨rfl,rfl,by show 1<=m.pause - 1; omega,by show m.pause - 1<=3; omega⟩,upp:=fun h=>absurd h hu,clean:=fun h=>absurd h hu }⟩
 rw [if_neg hp]
 refine ⟨[],none,?_⟩
 have hfl:=h.falls
 have hge:=h.gens
 exact {
  nc:=h.nc
  nodup:=List.nodup_nil
  ksl:=fun k hk=>by cases hk
  box:=rfl
  busy:=rfl
  idle:=fun _=>rfl
  work:=fun i hi=>by cases hi
  down:=fun h=>by cases h
  upp:=fun _=>rfl
  clean:=fun _ _=>rfl
  cells:=by show (zao m.store.cells m.store.undo).length=11; rw [zbe]; exact h.cells
  right:=h.right
  nm:=h.nm
  undo:=fun q hq=>by cases hq
  past:=h.past
  falls:=h.falls
  gens:=⟨by show 0<=m.server.gen+1; omega,fun _=>hge.2.2 hu',fun h=>by cases h⟩
  clients:=fun i c hc=>by
   have hi:=h.clients i c hc
   have hgn:=hi.hgen
   refine ⟨hi.calls,hi.at_,hi.done,hi.most,hi.got,hi.step,hi.last,by show c.gen<=m.server.gen+1; omega,?_⟩
   cases hi.phase with
   | rest a b d e f=>exact .rest (by simp) (by simp) d e f
   | wait a b d e f g=>cases a
   | work a b d e f g k=>cases b
   | hear a b d e f=>exact .hear (by simp) (by simp) d e f
   | lost a b d e f g=>exact .lost (by simp) (by simp) d e f (fun _=>by show c.gen≠m.server.gen+1; omega) }
open Go Go.RowKit

theorem zjS {cl:List Cn} {i k:Nat} {c:Cn} (h:k≠i):zcK (cl.set i c) k=zcK cl k:=by
 unfold zcK
 rw [List.getD_eq_getElem?_getD,List.getD_eq_getElem?_getD,List.getElem?_set_ne (fun e=>h e.symm)]
theorem zer {cl:List Cn} {i:Nat} {c:Cn} (h:cl[i]?=some c):zcK cl i=c.got.length:=by
 unfold zcK
 rw [List.getD_eq_getElem?_getD,h]
 rfl
theorem ziV {X:Type} {cl:List X} {i k:Nat} {c c' d:X} (hc:cl[i]?=some c) (h:(cl.set i c')[k]?=some d):k=i/\d=c'∨k≠i/\cl[k]?=some d:=by
 by_cases e:k=i
 ·subst e
  have hl:k < cl.length:=(List.getElem?_eq_some_iff.1 hc).1
  rw [List.getElem?_set_self hl] at h
  exact .inl ⟨rfl,(Option.some.inj h).symm⟩
 ·rw [List.getElem?_set_ne (fun x=>e x.symm)] at h
  exact .inr ⟨e,h⟩
theorem zfI {cl:List Cn} {i:Nat} {c c':Cn} (hc:cl[i]?=some c) (hg:c'.got.length=c.got.length) (k:Nat):zcK (cl.set i c') k=zcK cl k:=by
 by_cases e:k=i
 ·subst e
  have hl:k < cl.length:=(List.getElem?_eq_some_iff.1 hc).1
  rw [zer (c:=c') (List.getElem?_set_self hl),zer hc,hg]
 ·exact zjS e

theorem zlY {c:Cn} {me gen:Int} {up:Bool} {a:An} (hb:c.box=[zce a]) (hw:zbE a=0) (h1:a.client=me) (h2:a.token=c.at_) (h3:c.sent=true) :
  zdW c me gen up=(⟨c.calls,c.at_+1,false,c.gen,[],c.got++[a.reply]⟩,[],0):=by
 unfold zdW
 rw [hb]
 simp only [zku hw]
 rw [if_pos (by exact ⟨trivial,h1,h2,h3⟩)]
theorem zgs {c:Cn} {me gen:Int} {up:Bool} (hb:c.box=[]):zdW c me gen up=if (c.calls.length:Int)<=c.at_ then (c,[],11) else if ¬ up then (c,[],10) else if c.sent/\c.gen=gen then (c,[],12) else (⟨c.calls,c.at_,true,gen,[],c.got⟩,zc0 ⟨me,c.at_,c.calls.getD c.at_.toNat ⟨0,0,0,0⟩⟩,0):=by
 unfold zdW
 rw [hb]

theorem zmA {X:Type} {xs:List X} {n:Nat} {d:X} (h:n < xs.length):xs.take (n+1)=xs.take n++[xs.getD n d]:=by
 rw [List.take_add_one,List.getD_eq_getElem?_getD,List.getElem?_eq_getElem h]
 rfl

theorem zjz:∀ {n:Nat} {ks:List Nat},ks.Nodup->(∀ k ∈ ks,k < n)->ks.length<=n
 | 0,ks,_,h=>by
  cases ks with
  | nil=>exact Nat.le_refl _
  | cons k ks=>exact absurd (h k (by simp)) (by omega)
 | n+1,ks,hd,h=>by
  have h1:=zjz (n:=n) (ks:=ks.erase n) (hd.erase n) (fun k hk=>by
   have h2:=h k (List.mem_of_mem_erase hk)
   have h3:k≠n:=fun e=>by subst e; exact absurd hk (hd.not_mem_erase)
   omega)
  by_cases hm:n ∈ ks
  ·have:=List.length_erase_of_mem hm
   omega
  ·rw [List.erase_of_not_mem hm] at h1
   omega

theorem zkz {l:List (List Cl)} (hl:zbm l) {m:Mc} {ks:List Nat} {bz:Option Nat} (h:MInv l m ks bz) (n:Int):∃ ks' bz',MInv l (doM m 1 n).1 ks' bz':=by
 unfold doM
 rw [if_pos rfl]
 by_cases hn:n < 0∨(m.clients.length:Int)<=n
 ·rw [if_pos hn]; exact ⟨ks,bz,h⟩
 rw [if_neg hn]
 obtain ⟨i,rfl⟩:∃ i:Nat,n=(i:Int):=⟨n.toNat,by omega⟩
 simp only [Int.toNat_natCast]
 have hi:i < m.clients.length:=by omega
 have hil:i < l.length:=by rw [<- h.nc]; exact hi
 obtain ⟨c,hc⟩:∃ c,m.clients[i]?=some c:=⟨_,List.getElem?_eq_getElem hi⟩
 have hgd:m.clients.getD i (zcC [])=c:=by rw [List.getD_eq_getElem?_getD,hc]; rfl
 rw [hgd]
 have ci:=h.clients i c hc
 have h8:(l.getD i []).length<=8:=(hl.2 _ (zhh hil)).1
 generalize hG:zdW c (i:Int) m.server.gen m.up=G
 have hsame:G.2.2≠0->∃ ks' bz',MInv l (if G.2.2≠0 then (m,G.2.2) else if G.2.1≠[] then if (zcD m.server G.2.1).2≠0 then (m,(zcD m.server G.2.1).2) else ({ m with server:=(zcD m.server G.2.1).1,clients:=m.clients.set i G.1 },0) else ({ m with clients:=m.clients.set i G.1 },0)).1 ks' bz':=fun hne=>by
  rw [if_pos hne]; exact ⟨ks,bz,h⟩
 have hempty:c.box=[]->i ∉ ks->bz≠some i->(c.sent=true->m.up=true->c.gen≠m.server.gen) ->
   ∃ ks' bz',MInv l (if G.2.2≠0 then (m,G.2.2) else if G.2.1≠[] then if (zcD m.server G.2.1).2≠0 then (m,(zcD m.server G.2.1).2) else ({ m with server:=(zcD m.server G.2.1).1,clients:=m.clients.set i G.1 },0) else ({ m with clients:=m.clients.set i G.1 },0)).1 ks' bz':=by
  intro hb hk hz hs
  rw [zgs hb] at hG
  by_cases hd:(c.calls.length:Int)<=c.at_
  ·rw [if_pos hd] at hG; exact hsame (by rw [<- hG]; simp)
  rw [if_neg hd] at hG
  by_cases hu:m.up=true
  case neg=>rw [if_pos hu] at hG; exact hsame (by rw [<- hG]; simp)
  rw [if_neg (fun x=>x hu)] at hG
  by_cases hw:c.sent=true/\c.gen=m.server.gen
  ·rw [if_pos hw] at hG; exact hsame (by rw [<- hG]; simp)
  rw [if_neg hw] at hG
  have hcalls:=ci.calls
  have hat:=ci.at_
  have hlt:c.got.length < (l.getD i []).length:=by rw [<- hcalls]; omega
  have hreq:(⟨(i:Int),c.at_,c.calls.getD c.at_.toNat ⟨0,0,0,0⟩⟩:Rq)=zbs l i c.got.length:=by
   unfold zbs
   rw [hcalls,hat]
   rfl
  rw [hreq] at hG
  subst hG
  have hks:ks.length < 3:=by
   have hsub:(i::ks).Nodup:=List.nodup_cons.2 ⟨hk,h.nodup⟩
   have hle:(i::ks).length<=l.length:=zjz hsub (fun x hx=>by
    rcases List.mem_cons.1 hx with rfl | hx
    ·exact hil
    ·exact h.ksl x hx)
   have:=hl.1
   simp at hle
   omega
  have hbl:m.server.box.length=ks.length:=by rw [h.box,List.length_map]
  have hcome:zcD m.server (zc0 (zbs l i c.got.length))=({ m.server with box:=m.server.box++[zc0 (zbs l i c.got.length)] },0):=by
   unfold zcD
   rw [if_neg (by omega)]
  rw [if_neg (by simp),if_pos (by simp [zc0])]
  simp only []
  rw [hcome,if_neg (by simp)]
  refine ⟨ks++[i],bz,?_⟩
  have hgs:=fun k=>zfI (c':=(⟨c.calls,c.at_,true,m.server.gen,[],c.got⟩:Cn)) hc rfl k
  exact {
   nc:=by show (m.clients.set i _).length=_; rw [List.length_set]; exact h.nc
   nodup:=by
    rw [List.nodup_append]
    refine ⟨h.nodup,by simp,fun x hx y hy e=>?_⟩
    simp at hy
    subst hy
    subst e
    exact hk hx
   ksl:=fun k hx=>by
    rcases List.mem_append.1 hx with hx | hx
    ·exact h.ksl k hx
    ·simp at hx; subst hx; exact hil
   box:=by
    show m.server.box++[zc0 (zbs l i c.got.length)]=_
    rw [List.map_append,h.box]
    simp only [hgs]
    rw [List.map_cons,List.map_nil,zer hc]
   busy:=h.busy
   idle:=fun hz=>by
    show ({ m.server with box:=m.server.box++[zc0 (zbs l i c.got.length)] }:Sv)=zcU m.server.gen (m.server.box++[zc0 (zbs l i c.got.length)])
    rw [h.idle hz]
    rfl
   work:=fun j hj=>by
    obtain ⟨w1,w2,w3,w4,w5⟩:=h.work j hj
    exact ⟨w1,by show m.server.now=zbs l j (zcK (m.clients.set i _) j); rw [hgs]; exact w2,w3,w4,w5⟩
   down:=fun hd=>absurd hd (by simp [hu])
   upp:=h.upp
   clean:=h.clean
   cells:=h.cells
   right:=h.right
   nm:=h.nm
   undo:=h.undo
   past:=h.past
   falls:=h.falls
   gens:=h.gens
   clients:=fun k d hd=>by
    rcases ziV hc hd with ⟨rfl,rfl⟩ | ⟨hne,hd⟩
    ·exact ⟨hcalls,hat,ci.done,ci.most,ci.got,ci.step,ci.last,Int.le_refl _,.wait (by simp) hz rfl rfl rfl hlt⟩
    ·refine (h.clients k d hd).other rfl rfl rfl ?_ Iff.rfl
     simp [hne] }
 cases ci.phase with
 | rest a b d e f=>exact hempty e a b (fun x=>by rw [d] at x; cases x)
 | wait a b d e f g =>
  refine hsame ?_
  rw [<- hG,zgs f]
  have hcalls:=ci.calls
  have hat:=ci.at_
  rw [if_neg (by rw [hcalls,hat]; omega)]
  by_cases hu:m.up=true
  ·rw [if_neg (fun x=>x hu),if_pos ⟨d,e⟩]; simp
  ·rw [if_pos hu]; simp
 | work a b d e f g k =>
  refine hsame ?_
  rw [<- hG,zgs f]
  have hcalls:=ci.calls
  have hat:=ci.at_
  rw [if_neg (by rw [hcalls,hat]; omega)]
  by_cases hu:m.up=true
  ·rw [if_neg (fun x=>x hu),if_pos ⟨d,e⟩]; simp
  ·rw [if_pos hu]; simp
 | lost a b d e f g=>exact hempty e a b (fun _=>g)
 | hear a b d e f =>
  have htl:=ze4 m.store.past i
  have hmost:=ci.most
  have hw:=zli hl h.past hil (t:=c.got.length) (by omega) (by omega)
  rw [zlY f hw rfl ci.at_.symm d] at hG
  subst hG
  rw [if_neg (by simp),if_neg (by simp)]
  simp only []
  refine ⟨ks,bz,?_⟩
  have hgn:∀ k,k≠i->zcK (m.clients.set i (⟨c.calls,c.at_+1,false,c.gen,[],c.got++[(zbX m.store.past i).getD c.got.length ⟨0,0⟩]⟩:Cn)) k=zcK m.clients k:=fun k hk=>zjS hk
  exact {
   nc:=by show (m.clients.set i _).length=_; rw [List.length_set]; exact h.nc
   nodup:=h.nodup
   ksl:=h.ksl
   box:=by
    show m.server.box=_
    rw [h.box]
    refine List.map_congr_left fun k hk=>?_
    rw [hgn k (fun e=>by subst e; exact a hk)]
   busy:=h.busy
   idle:=h.idle
   work:=fun j hj=>by
    obtain ⟨w1,w2,w3,w4,w5⟩:=h.work j hj
    exact ⟨w1,by show m.server.now=zbs l j (zcK (m.clients.set i _) j); rw [hgn j (fun e=>by subst e; exact b hj)]; exact w2,w3,w4,w5⟩
   down:=h.down
   upp:=h.upp
   clean:=h.clean
   cells:=h.cells
   right:=h.right
   nm:=h.nm
   undo:=h.undo
   past:=h.past
   falls:=h.falls
   gens:=h.gens
   clients:=fun k x hx=>by
    rcases ziV hc hx with ⟨rfl,rfl⟩ | ⟨hne,hx⟩
    ·have hgl:(c.got++[(zbX m.store.past k).getD c.got.length ⟨0,0⟩]).length=c.got.length+1:=by simp
     refine ⟨ci.calls,?_,ci.done,ci.most,?_,.inl ?_,ci.last,ci.hgen,.rest a b rfl rfl ?_⟩
     ·show c.at_+1=_; rw [hgl,ci.at_]; omega
     ·show c.got++_=_
      rw [hgl,zmA (by omega:c.got.length < (zbX m.store.past k).length),<- ci.got]
     ·show _=List.length _; rw [hgl]; exact e
     ·show _=List.length _; rw [hgl]; exact e
    ·exact h.clients k x hx }
open Go Go.RowKit

theorem zjY {s:St} {v:Sv} {q:Int×Int} {rest:List (Int×Int)} (hb:v.busy=true) (hp:v.plan=q::rest):zaM s v=(zak s q,{ v with plan:=rest },[],0):=by
 unfold zaM
 rw [if_pos hb,hp]
theorem ziN {s:St} {v:Sv} (hb:v.busy=true) (hp:v.plan=[]):zaM s v=(zb0 s v.now v.says,zcU v.gen v.box,zce ⟨v.now.client,v.now.token,v.says⟩,0):=by
 unfold zaM
 rw [if_pos hb,hp]
theorem zke {s:St} {v:Sv} (hb:v.busy=false) (hp:v.box=[]):zaM s v=(s,v,[],12):=by
 unfold zaM
 rw [if_neg (by simp [hb]),hp]
theorem zkh {s:St} {v:Sv} {r:Rq} {rest:List (List UInt8)} (hb:v.busy=false) (hp:v.box=zc0 r::rest) (hr:zbH r=0) :
  zaM s v=if (lastAn s.answers r.client).2=true/\r.token<=(lastAn s.answers r.client).1.token then
   if (lastAn s.answers r.client).1.token=r.token then (s,{ v with box:=rest },zce (lastAn s.answers r.client).1,0) else (s,{ v with box:=rest },[],0)
   else (s,{ v with box:=rest,busy:=true,now:=r,plan:=za8 (zaZ s.cells) r.call,says:=(za5 (zaZ s.cells) r.call).2 },[],0):=by
 unfold zaM
 rw [if_neg (by simp [hb]),hp]
 simp only [zkl hr]
 rw [if_neg (by simp)]
theorem ziQ (s:St) (q:Int×Int) (rest:List (Int×Int)):zao (zak s q).cells rest=zao s.cells (q::rest):=by
 unfold zak
 by_cases h:0<=q.1/\q.1 < (s.cells.length:Int)
 ·rw [if_pos h]; rfl
 ·rw [if_neg h]
  show zao s.cells rest=zao (zde s.cells q) rest
  rw [show zde s.cells q=s.cells by unfold zde; rw [if_neg h]]

theorem zk1 {a:An} (h0:0<=a.client) (h1:a.client < 3):(((zce a).getD 1 0).toNat:Int)=a.client:=zbN h0 (by omega)

theorem zj9 {l:List (List Cl)} (hl:zbm l) {m:Mc} {ks:List Nat} {bz:Option Nat} (h:MInv l m ks bz) (n:Int):∃ ks' bz',MInv l (doM m 2 n).1 ks' bz':=by
 unfold doM
 rw [if_neg (by decide),if_pos rfl]
 by_cases hu:m.up=true
 case neg=>rw [if_pos hu]; exact ⟨ks,bz,h⟩
 rw [if_neg (fun x=>x hu)]
 have hokn:=zhj hl h.past
 have h3:=hl.1
 cases bz with
 | some i =>
  have hbusy:m.server.busy=true:=h.busy
  obtain ⟨hi,w2,w3,w4,w5⟩:=h.work i rfl
  obtain ⟨c,hc⟩:∃ c,m.clients[i]?=some c:=⟨_,List.getElem?_eq_getElem (by rw [h.nc]; exact hi)⟩
  have ci:=h.clients i c hc
  rw [zer hc] at w2
  cases hp:m.server.plan with
  | cons q rest =>
   rw [zjY hbusy hp]
   simp only []
   rw [if_neg (by simp),if_neg (by simp)]
   refine ⟨ks,some i,?_⟩
   have hbk:=zks m.store q
   have hcells:zao (zak m.store q).cells (zak m.store q).undo=zao m.store.cells m.store.undo:=congrArg St.cells hbk
   have hpast:(zak m.store q).past=m.store.past:=by unfold zak; split <;> rfl
   have hansw:(zak m.store q).answers=m.store.answers:=by unfold zak; split <;> rfl
   have hund:∀ x ∈ (zak m.store q).undo,0<=x.1/\x.1<=10:=by
    intro x hx
    unfold zak at hx
    split at hx
    ·rename_i hr
     have hx':x ∈ (q.1,m.store.cells.getD q.1.toNat 0)::m.store.undo:=hx
     rcases List.mem_cons.1 hx' with rfl | hx'
     ·have:=h.cells; simp only []; omega
     ·exact h.undo x hx'
    ·exact h.undo x hx
   exact {
    nc:=h.nc
    nodup:=h.nodup
    ksl:=h.ksl
    box:=h.box
    busy:=h.busy
    idle:=fun x=>by cases x
    work:=fun j hj=>by
     obtain ⟨v1,v2,v3,v4,v5⟩:=h.work j hj
     refine ⟨v1,v2,?_,?_,?_⟩
     ·show m.server.says=(za5 (zcu (zak m.store q).past) m.server.now.call).2
      rw [hpast]; exact v3
     ·show zao (zak m.store q).cells rest=zao (zao (zak m.store q).cells (zak m.store q).undo) (za8 (zcu (zak m.store q).past) m.server.now.call)
      rw [ziQ,hcells,hpast,<- hp]; exact v4
     ·show rest.length<=3
      rw [hp] at v5; simp at v5; omega
    down:=fun x=>absurd x (by simp [hu])
    upp:=h.upp
    clean:=fun _ x=>by cases x
    cells:=by show (zak m.store q).cells.length=11; rw [ziS]; exact h.cells
    right:=by show zb8 (zao (zak m.store q).cells (zak m.store q).undo)=0; rw [hcells]; exact h.right
    nm:=by show zaZ (zao (zak m.store q).cells (zak m.store q).undo)=zcu (zak m.store q).past; rw [hcells,hpast]; exact h.nm
    undo:=hund
    past:=by show zg9 l (zak m.store q).past; rw [hpast]; exact h.past
    falls:=h.falls
    gens:=h.gens
    clients:=fun k d hd=>by
     show CInv l (zak m.store q).past (zak m.store q).answers m.server.gen m.up ks (some i) k d
     rw [hpast,hansw]
     exact h.clients k d hd }
  | nil =>
   rw [ziN hbusy hp]
   have hph:i ∉ ks/\c.sent=true/\c.gen=m.server.gen/\c.box=[]/\c.got.length < (l.getD i []).length/\(za6 m.store.past i).length=c.got.length:=by
    cases ci.phase with
    | rest a b=>exact absurd rfl b
    | wait a b=>exact absurd rfl b
    | work a b d e f g k=>exact ⟨a,d,e,f,g,k⟩
    | hear a b=>exact absurd rfl b
    | lost a b=>exact absurd rfl b
   obtain ⟨p1,p2,p3,p4,p5,p6⟩:=hph
   have hcall:=zeB hl hi p5
   have hcl:m.server.now.client=(i:Int):=by rw [w2]; rfl
   have htk:m.server.now.token=(c.got.length:Int):=by rw [w2]; rfl
   have hne:zce ⟨m.server.now.client,m.server.now.token,m.server.says⟩≠[]:=by simp [zce]
   have hto:((zce ⟨m.server.now.client,m.server.now.token,m.server.says⟩).getD 1 0).toNat=i:=by
    have:=zk1 (a:=⟨m.server.now.client,m.server.now.token,m.server.says⟩) (by show 0<=m.server.now.client; rw [hcl]; omega) (by show m.server.now.client < 3; rw [hcl]; omega)
    rw [hcl] at this ⊢
    have this2:(((zce ⟨(i:Int),m.server.now.token,m.server.says⟩).getD 1 0).toNat:Int)=(i:Int):=this
    omega
   simp only []
   rw [if_neg (by simp),if_pos hne,hto,if_pos (by rw [h.nc]; exact hi)]
   have hgd:m.clients.getD i (zcC [])=c:=by rw [List.getD_eq_getElem?_getD,hc]; rfl
   rw [hgd]
   have hcome:zdf c (zce ⟨m.server.now.client,m.server.now.token,m.server.says⟩)={ c with box:=[zce ⟨m.server.now.client,m.server.now.token,m.server.says⟩] }:=by
    unfold zdf
    rw [p4]
    rfl
   rw [hcome]
   refine ⟨ks,none,?_⟩
   -- what cells are now
   have hcells:m.store.cells=zao (zao m.store.cells m.store.undo) (za8 (zaZ (zao m.store.cells m.store.undo)) m.server.now.call):=by
    rw [hp] at w4
    rw [h.nm]
    exact w4
   have hpm:=zkd (c:=m.server.now.call) h.right (by rw [w2]; exact hcall)
   have hpm1:zb8 m.store.cells=0:=by rw [hcells]; exact hpm.1
   have hpm2:zaZ m.store.cells=(za5 (zcu m.store.past) m.server.now.call).1:=by
    have h2:zaZ (zao (zao m.store.cells m.store.undo) (za8 (zaZ (zao m.store.cells m.store.undo)) m.server.now.call))=(za5 (zaZ (zao m.store.cells m.store.undo)) m.server.now.call).1:=hpm.2
    rw [<- hcells,h.nm] at h2
    exact h2
   have hmi:za6 (m.store.past++[m.server.now]) i=za6 m.store.past i++[m.server.now]:=by rw [zgt,if_pos hcl]
   have hti:zbX (m.store.past++[m.server.now]) i=zbX m.store.past i++[m.server.says]:=by rw [zgx,if_pos hcl,<- w3]
   have htl:=ze4 m.store.past i
   have hgn:∀ k,zcK (m.clients.set i { c with box:=[zce ⟨m.server.now.client,m.server.now.token,m.server.says⟩] }) k=zcK m.clients k:=fun k=>zfI (c':={ c with box:=[zce ⟨m.server.now.client,m.server.now.token,m.server.says⟩] }) hc rfl k
   exact {
    nc:=by show (m.clients.set i _).length=_; rw [List.length_set]; exact h.nc
    nodup:=h.nodup
    ksl:=h.ksl
    box:=by show m.server.box=_; rw [h.box]; simp only [hgn]
    busy:=rfl
    idle:=fun _=>rfl
    work:=fun j hj=>by cases hj
    down:=fun x=>absurd x (by simp [hu])
    upp:=h.upp
    clean:=fun _ _=>rfl
    cells:=h.cells
    right:=hpm1
    nm:=by show zaZ m.store.cells=zcu (m.store.past++[m.server.now]); rw [zkH]; exact hpm2
    undo:=fun q hq=>by cases hq
    past:=fun r hr=>by
     have hr':r ∈ m.store.past++[m.server.now]:=hr
     rcases List.mem_append.1 hr' with hr' | hr'
     ·exact h.past r hr'
     ·simp at hr'
      exact ⟨i,c.got.length,hi,p5,by rw [hr',w2]⟩
    falls:=h.falls
    gens:=h.gens
    clients:=fun k d hd=>by
     show CInv l (m.store.past++[m.server.now]) (zb2 m.store.answers ⟨m.server.now.client,m.server.now.token,m.server.says⟩) m.server.gen m.up ks none k d
     rcases ziV hc hd with ⟨rfl,rfl⟩ | ⟨hne2,hd⟩
     ·have hml:(za6 (m.store.past++[m.server.now]) k).length=c.got.length+1:=by rw [hmi,List.length_append,p6]; rfl
      have hta:(zbX (m.store.past++[m.server.now]) k).getD c.got.length ⟨0,0⟩=m.server.says:=by
       rw [hti,List.getD_eq_getElem?_getD,List.getElem?_append_right (by omega),show c.got.length - (zbX m.store.past k).length=0 by omega]
       rfl
      refine ⟨ci.calls,ci.at_,?_,by rw [hml]; omega,?_,.inr hml,?_,ci.hgen,.hear p1 (by simp) p2 hml ?_⟩
      ·rw [hml,List.range_succ,List.map_append,hmi,ci.done,p6,w2]
       simp
      ·show c.got=_
       rw [hti,List.take_append_of_le_length (show c.got.length<=(zbX m.store.past k).length by omega)]
       exact ci.got
      ·rw [hml,if_neg (by omega),Nat.add_sub_cancel,hta]
       have:=zmZ m.store.answers ⟨m.server.now.client,m.server.now.token,m.server.says⟩
       rw [hcl,htk] at this ⊢
       exact this
      ·show [zce ⟨m.server.now.client,m.server.now.token,m.server.says⟩]=_
       rw [hta,hcl,htk]
     ·have hkc:m.server.now.client≠(k:Int):=by rw [hcl]; omega
      refine (h.clients k d hd).other (by rw [zgt,if_neg hkc]) (by rw [zgx,if_neg hkc]) (zkm _ _ _ (fun e=>hkc e.symm)) Iff.rfl ?_
      simp
      exact fun e=>hne2 e.symm }
 | none =>
  have hbusy:m.server.busy=false:=h.busy
  have hsv:=h.idle rfl
  have hundo:=h.clean hu rfl
  cases ks with
  | nil =>
   rw [zke hbusy (by rw [h.box]; rfl)]
   exact ⟨[],none,h⟩
  | cons k ks =>
   have hk:k < l.length:=h.ksl k (by simp)
   obtain ⟨c,hc⟩:∃ c,m.clients[k]?=some c:=⟨_,List.getElem?_eq_getElem (by rw [h.nc]; exact hk)⟩
   have ci:=h.clients k c hc
   have hph:c.sent=true/\c.gen=m.server.gen/\c.box=[]/\c.got.length < (l.getD k []).length:=by
    cases ci.phase with
    | rest a=>exact absurd (by simp) a
    | wait a b d e f g=>exact ⟨d,e,f,g⟩
    | work a=>exact absurd (by simp) a
    | hear a=>exact absurd (by simp) a
    | lost a=>exact absurd (by simp) a
   obtain ⟨p2,p3,p4,p5⟩:=hph
   have hbox:m.server.box=zc0 (zbs l k c.got.length)::ks.map (fun k=>zc0 (zbs l k (zcK m.clients k))):=by
    rw [h.box,List.map_cons,zer hc]
   have hnd:=List.nodup_cons.1 h.nodup
   have hstep:=ci.step
   have hlast:=ci.last
   have htl:=ze4 m.store.past k
   have hS:=zkh (s:=m.store) hbusy hbox (zh2 hl hk p5)
   have hrc:(zbs l k c.got.length).client=(k:Int):=rfl
   have hrt:(zbs l k c.got.length).token=(c.got.length:Int):=rfl
   rw [hrc,hrt,hlast] at hS
   by_cases hd:(za6 m.store.past k).length=c.got.length+1
   ·-- it was done: the same answer again
    rw [if_neg (show ¬ (za6 m.store.past k).length=0 by omega),hd,Nat.add_sub_cancel] at hS
    rw [if_pos (by exact ⟨rfl,Int.le_refl _⟩),if_pos (by rfl)] at hS
    rw [hS]
    simp only []
    have hne:zce ⟨(k:Int),(c.got.length:Int),(zbX m.store.past k).getD c.got.length ⟨0,0⟩⟩≠[]:=by simp [zce]
    have hto:((zce ⟨(k:Int),(c.got.length:Int),(zbX m.store.past k).getD c.got.length ⟨0,0⟩⟩).getD 1 0).toNat=k:=by
     have:=zk1 (a:=⟨(k:Int),(c.got.length:Int),(zbX m.store.past k).getD c.got.length ⟨0,0⟩⟩) (by show (0:Int)<=k; omega) (by show (k:Int) < 3; omega)
     have this2:(((zce ⟨(k:Int),(c.got.length:Int),(zbX m.store.past k).getD c.got.length ⟨0,0⟩⟩).getD 1 0).toNat:Int)=(k:Int):=this
     omega
    rw [if_neg (by simp),if_pos hne,hto,if_pos (by rw [h.nc]; exact hk)]
    have hgd:m.clients.getD k (zcC [])=c:=by rw [List.getD_eq_getElem?_getD,hc]; rfl
    rw [hgd]
    have hcome:zdf c (zce ⟨(k:Int),(c.got.length:Int),(zbX m.store.past k).getD c.got.length ⟨0,0⟩⟩)={ c with box:=[zce ⟨(k:Int),(c.got.length:Int),(zbX m.store.past k).getD c.got.length ⟨0,0⟩⟩] }:=by
     unfold zdf
     rw [p4]
     rfl
    rw [hcome]
    have hgn:∀ j,zcK (m.clients.set k { c with box:=[zce ⟨(k:Int),(c.got.length:Int),(zbX m.store.past k).getD c.got.length ⟨0,0⟩⟩] }) j=zcK m.clients j:=fun j=>zfI (c':={ c with box:=[zce ⟨(k:Int),(c.got.length:Int),(zbX m.store.past k).getD c.got.length ⟨0,0⟩⟩] }) hc rfl j
    refine ⟨ks,none,?_⟩
    exact {
     nc:=by show (m.clients.set k _).length=_; rw [List.length_set]; exact h.nc
     nodup:=hnd.2
     ksl:=fun j hj=>h.ksl j (by simp [hj])
     box:=by show ks.map (fun k=>zc0 (zbs l k (zcK m.clients k)))=_; simp only [hgn]
     busy:=h.busy
     idle:=fun _=>by
      show ({ m.server with box:=ks.map (fun k=>zc0 (zbs l k (zcK m.clients k))) }:Sv)=zcU m.server.gen _
      rw [hsv]; rfl
     work:=fun j hj=>by cases hj
     down:=fun x=>absurd x (by simp [hu])
     upp:=h.upp
     clean:=h.clean
     cells:=h.cells
     right:=h.right
     nm:=h.nm
     undo:=h.undo
     past:=h.past
     falls:=h.falls
     gens:=h.gens
     clients:=fun j d hj=>by
      rcases ziV hc hj with ⟨rfl,rfl⟩ | ⟨hne2,hj⟩
      ·exact ⟨ci.calls,ci.at_,ci.done,ci.most,ci.got,ci.step,ci.last,ci.hgen,.hear hnd.1 (by simp) p2 hd rfl⟩
      ·refine (h.clients j d hj).other rfl rfl rfl ?_ Iff.rfl
       simp [hne2] }
   ·-- it is new
    have hd0:(za6 m.store.past k).length=c.got.length:=by omega
    have hnot:¬ ((if (za6 m.store.past k).length=0 then (zeroAn,false) else (⟨k,((za6 m.store.past k).length - 1:Nat),(zbX m.store.past k).getD ((za6 m.store.past k).length - 1) ⟨0,0⟩⟩,true)).2=true /\
      (c.got.length:Int)<=(if (za6 m.store.past k).length=0 then (zeroAn,false) else ((⟨k,((za6 m.store.past k).length - 1:Nat),(zbX m.store.past k).getD ((za6 m.store.past k).length - 1) ⟨0,0⟩⟩:An),true)).1.token):=by
     by_cases hz:(za6 m.store.past k).length=0
     ·rw [if_pos hz]; simp
     ·rw [if_neg hz]
      simp only [true_and]
      omega
    rw [if_neg hnot] at hS
    rw [hS]
    simp only []
    rw [if_neg (by simp),if_neg (by simp)]
    refine ⟨ks,some k,?_⟩
    have hnames:zaZ m.store.cells=zcu m.store.past:=by have:=h.nm; rw [hundo] at this; exact this
    exact {
     nc:=h.nc
     nodup:=hnd.2
     ksl:=fun j hj=>h.ksl j (by simp [hj])
     box:=rfl
     busy:=rfl
     idle:=fun x=>by cases x
     work:=fun j hj=>by
      obtain rfl:k=j:=by simpa using hj
      refine ⟨hk,?_,?_,?_,?_⟩
      ·show zbs l k c.got.length=zbs l k (zcK m.clients k); rw [zer hc]
      ·show (za5 (zaZ m.store.cells) (zbs l k c.got.length).call).2=(za5 (zcu m.store.past) (zbs l k c.got.length).call).2; rw [hnames]
      ·show zao m.store.cells (za8 (zaZ m.store.cells) (zbs l k c.got.length).call)=zao (zao m.store.cells m.store.undo) (za8 (zcu m.store.past) (zbs l k c.got.length).call)
       rw [hundo,hnames]; rfl
      ·exact zmV _ _
     down:=fun x=>absurd x (by simp [hu])
     upp:=h.upp
     clean:=fun _ x=>by cases x
     cells:=h.cells
     right:=h.right
     nm:=h.nm
     undo:=h.undo
     past:=h.past
     falls:=h.falls
     gens:=h.gens
     clients:=fun j d hj=>by
      by_cases e:j=k
      ·subst e
       obtain rfl:c=d:=by rw [hc] at hj; exact Option.some.inj hj
       exact ⟨ci.calls,ci.at_,ci.done,ci.most,ci.got,ci.step,ci.last,ci.hgen,.work hnd.1 rfl p2 p3 p4 p5 hd0⟩
      ·refine (h.clients j d hj).other rfl rfl rfl ?_ ?_
       ·simp [e]
       ·simp; exact fun x=>e x.symm }

theorem znX {l:List (List Cl)} (hl:zbm l) {m:Mc} {ks:List Nat} {bz:Option Nat} (h:MInv l m ks bz) (kind n:Int):∃ ks' bz',MInv l (doM m kind n).1 ks' bz':=by
 by_cases h1:kind=1
 ·subst h1; exact zkz hl h n
 by_cases h2:kind=2
 ·subst h2; exact zj9 hl h n
 unfold doM
 rw [if_neg h1,if_neg h2]
 by_cases h3:kind=3
 ·rw [if_pos h3]; exact zmI h
 rw [if_neg h3]
 by_cases h4:kind=4
 ·rw [if_pos h4]; exact zmG h
 ·rw [if_neg h4]; exact ⟨ks,bz,h⟩
theorem zl4 {l:List (List Cl)} (hl:zbm l) (steps:List (Int×Int)) {m:Mc} {ks:List Nat} {bz:Option Nat} (h:MInv l m ks bz):∃ ks' bz',MInv l (zdc m steps) ks' bz':=by
 induction steps generalizing m ks bz with
 | nil=>exact ⟨ks,bz,h⟩
 | cons s steps ih =>
  obtain ⟨ks',bz',h'⟩:=znX hl h s.1 s.2
  exact ih h'
theorem zkU {l:List (List Cl)} (hl:zbm l) (steps:List (Int×Int)):∃ ks bz,MInv l (zdc (newMc l) steps) ks bz:=zl4 hl steps (znv l)

end Go.Mk

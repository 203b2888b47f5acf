/- Texts of the proof, merged: Math15 Math16 Math17 Math18 Math27 Math28. -/
import Derived.Test.YtdmipnnfoolelagGreatKTF

namespace Go.Mk
open Go Go.RowKit

def zdi (f:Nat->Nat):Nat->Nat
 | 0=>0
 | n+1=>zdi f n+f n
theorem zjj {f g:Nat->Nat} {n:Nat} (h:∀ i,i < n->f i<=g i):zdi f n<=zdi g n:=by
 induction n with
 | zero=>exact Nat.le_refl _
 | succ n ih =>
  have:=ih (fun i hi=>h i (by omega))
  have:=h n (by omega)
  simp only [zdi]; omega
theorem zfo {f g:Nat->Nat} {n i:Nat} (h:∀ j,j < n->j≠i->f j=g j) (hi:i < n) (hlt:f i < g i):zdi f n < zdi g n:=by
 induction n with
 | zero=>omega
 | succ n ih =>
  simp only [zdi]
  by_cases e:i=n
  ·subst e
   have:zdi f i<=zdi g i:=zjj (fun j hj=>by rw [h j (by omega) (by omega)]; exact Nat.le_refl _)
   omega
  ·have:=ih (fun j hj=>h j (by omega)) (by omega)
   rw [h n (by omega) (fun x=>e x.symm)]
   omega
theorem zqk {f g:Nat->Nat} {n:Nat} (h:∀ i,i < n->f i=g i):zdi f n=zdi g n :=
 Nat.le_antisymm (zjj fun i hi=>by rw [h i hi]; exact Nat.le_refl _) (zjj fun i hi=>by rw [h i hi]; exact Nat.le_refl _)
theorem zjd {f:Nat->Nat} {n b:Nat} (h:∀ i,i < n->f i<=b):zdi f n<=n * b:=by
 induction n with
 | zero=>simp [zdi]
 | succ n ih =>
  have:=ih (fun i hi=>h i (by omega))
  have:=h n (by omega)
  simp only [zdi,Nat.succ_mul]; omega

def zjq (busyWith:Bool) (plan:Nat) (waits:Bool) (has:Bool):Nat:=if busyWith then 5 - plan else if waits then 1 else if has then 6 else 0
def zbT (m:Mc) (i:Nat):Bool:=m.server.busy && decide (m.server.now.client=(i:Int))
def zcX (m:Mc) (i:Nat):Bool:=m.server.box.any fun b=>(b.getD 1 0).toNat == i
def ziu (m:Mc) (i:Nat):Bool:=!(m.clients.getD i (zbS [])).box.isEmpty
def zeL (l:List (List Cl)) (m:Mc) (i:Nat):Nat:=8 * ((l.getD i []).length - zbC m.clients i) - zjq (zbT m i) m.server.plan.length (zcX m i) (ziu m i)
def zhL (l:List (List Cl)) (m:Mc):Nat:=zdi (zeL l m) l.length

theorem zkS {l:List (List Cl)} {k t:Nat} (h:k < 3):((zbF (zbe l k t)).getD 1 0).toNat=k:=by
 have h1:((byteOf (k:Int)).toNat:Int)=k:=zcd (by omega) (by omega)
 have h2:((zbF (zbe l k t)).getD 1 0)=byteOf (k:Int):=rfl
 rw [h2]
 omega
theorem ziz {l:List (List Cl)} {g:Nat->Nat} {ks:List Nat} (hk:∀ k ∈ ks,k < 3) (i:Nat):((ks.map fun k=>zbF (zbe l k (g k))).any fun b=>(b.getD 1 0).toNat == i)=decide (i ∈ ks):=by
 induction ks with
 | nil=>simp
 | cons k ks ih =>
  rw [List.map_cons,List.any_cons,ih (fun x hx=>hk x (by simp [hx])),zkS (hk k (by simp))]
  by_cases e:k=i
  ·simp [e]
  ·have e2:¬ i=k:=fun x=>e x.symm
   simp [e,e2]

section
variable {l:List (List Cl)} {m:Mc} {ks:List Nat} {bz:Option Nat}

theorem zcW (h:MInv l m ks bz) (i:Nat):zbT m i=decide (bz=some i):=by
 unfold zbT
 cases bz with
 | none =>
  have:m.server.busy=false:=h.busy
  simp [this]
 | some j =>
  have hb:m.server.busy=true:=h.busy
  have hn:=(h.work j rfl).2.1
  have hc:m.server.now.client=(j:Int):=by rw [hn]; rfl
  rw [hb,hc]
  by_cases e:j=i
  ·simp [e]
  ·have:¬ (j:Int)=(i:Int):=by omega
   simp [e,this]
theorem zdw (hl:za9 l) (h:MInv l m ks bz) (i:Nat):zcX m i=decide (i ∈ ks):=by
 unfold zcX
 rw [h.box]
 exact ziz (fun k hk=>by have:=h.ksl k hk; have:=hl.1; omega) i
theorem zjc {i:Nat} {c:Cn} (hc:m.clients[i]?=some c):ziu m i=!c.box.isEmpty:=by
 unfold ziu
 rw [List.getD_eq_getElem?_getD,hc]
 rfl

theorem zeA {cl:List Cn} {i k:Nat} {c:Cn} (h:k≠i):(cl.set i c).getD k (zbS [])=cl.getD k (zbS []):=by
 rw [List.getD_eq_getElem?_getD,List.getD_eq_getElem?_getD,List.getElem?_set_ne (fun e=>h e.symm)]
theorem zfG {cl:List Cn} {i:Nat} {c d:Cn} (h:cl[i]?=some c):(cl.set i d)[i]?=some d:=List.getElem?_set_self (List.getElem?_eq_some_iff.1 h).1

theorem zm5 (hl:za9 l) (h:MInv l m ks bz) {i:Nat} {c:Cn} (hc:m.clients[i]?=some c) :
  ((doM m 1 (i:Int)).1=m/\(c.box=[]/\(l.getD i []).length<=c.got.length∨i ∈ ks∨bz=some i∨m.up=false))∨zhL l (doM m 1 (i:Int)).1 < zhL l m:=by
 have hil:i < l.length:=by rw [<- h.nc]; exact (List.getElem?_eq_some_iff.1 hc).1
 have h3:=hl.1
 rcases zlD hl h hc with x | ⟨r,e,hb,hk,hz,hlt⟩ | ⟨e,hb,hk,hz,hlt⟩
 ·exact .inl x
 ·refine .inr (zfo (i:=i) (fun j _ hj=>?_) hil ?_)
  ·rw [e]
   unfold zeL zbT zcX ziu
   simp only []
   rw [zfx hj,zeA hj]
  ·have hw:=zcW h i
   have hv:=zdw hl h i
   have hs:=zjc hc
   rw [e]
   unfold zeL
   rw [show zbT { m with clients:=m.clients.set i ⟨c.calls,c.at_+1,false,c.gen,[],c.got++[r]⟩ } i=zbT m i from rfl,show zcX { m with clients:=m.clients.set i ⟨c.calls,c.at_+1,false,c.gen,[],c.got++[r]⟩ } i=zcX m i from rfl,hw,hv,hs,
    zjc (m:={ m with clients:=m.clients.set i ⟨c.calls,c.at_+1,false,c.gen,[],c.got++[r]⟩ }) (zfG hc)]
   rw [show zbC ({ m with clients:=m.clients.set i ⟨c.calls,c.at_+1,false,c.gen,[],c.got++[r]⟩ }:Mc).clients i=c.got.length+1 by
    rw [zb0 (zfG hc)]; simp,zb0 hc,decide_eq_false hz,decide_eq_false hk]
   have hbe:c.box.isEmpty=false:=by cases hbx:c.box with | nil=>exact absurd hbx hb | cons _ _=>rfl
   rw [hbe]
   generalize (l.getD i []).length=L at *
   simp [zjq]
   omega
 ·refine .inr (zfo (i:=i) (fun j _ hj=>?_) hil ?_)
  ·rw [e]
   unfold zeL zbT zcX ziu
   simp only [List.any_append,List.any_cons,List.any_nil,Bool.or_false]
   rw [zfx hj,zeA hj,zkS (show i < 3 by omega)]
   have:(i == j)=false:=by simpa using fun x=>hj x.symm
   rw [this,Bool.or_false]
  ·have hw:=zcW h i
   have hs:=zjc hc
   rw [e]
   unfold zeL
   rw [show zbT { m with server:={ m.server with box:=m.server.box++[zbF (zbe l i c.got.length)] },clients:=m.clients.set i ⟨c.calls,c.at_,true,m.server.gen,[],c.got⟩ } i=zbT m i from rfl,hw,hs,zdw hl h i,zb0 hc]
   rw [show zbC ({ m with server:={ m.server with box:=m.server.box++[zbF (zbe l i c.got.length)] },clients:=m.clients.set i ⟨c.calls,c.at_,true,m.server.gen,[],c.got⟩ }:Mc).clients i=c.got.length by rw [zb0 (zfG hc)],decide_eq_false hz,decide_eq_false hk]
   rw [show zcX { m with server:={ m.server with box:=m.server.box++[zbF (zbe l i c.got.length)] },clients:=m.clients.set i ⟨c.calls,c.at_,true,m.server.gen,[],c.got⟩ } i=true by
    unfold zcX
    simp only [List.any_append,List.any_cons,List.any_nil,Bool.or_false]
    rw [zkS (show i < 3 by omega)]
    simp,hb]
   generalize (l.getD i []).length=L at *
   simp [zjq]
   omega

theorem znv (hl:za9 l) (h:MInv l m ks bz) (n:Int) :
  ((doM m 2 n).1=m/\(m.up=false∨ks=[]/\bz=none))∨zhL l (doM m 2 n).1 < zhL l m:=by
 have h3:=hl.1
 have hk3:∀ k ∈ ks,k < 3:=fun k hk=>by have:=h.ksl k hk; omega
 rcases zkT hl h n with x | ⟨i,q,rest,s,hb,hp,e⟩ | ⟨i,c,b,s,hb,hp,hc,hk,e⟩ | ⟨k,ks',c,b,hb,hks,hc,e⟩ | ⟨k,ks',r,p,s,hb,hks,hr,hpl,e⟩
 ·exact .inl x
 ·obtain ⟨hi,-,-,-,w5⟩:=h.work i hb
  obtain ⟨c,hc⟩:∃ c,m.clients[i]?=some c:=⟨_,List.getElem?_eq_getElem (by rw [h.nc]; exact hi)⟩
  have hlt:c.got.length < (l.getD i []).length:=by
   cases (h.clients i c hc).phase with
   | rest _ y=>exact absurd hb y
   | wait _ y=>exact absurd hb y
   | work _ _ _ _ _ g=>exact g
   | hear _ y=>exact absurd hb y
   | lost _ y=>exact absurd hb y
  refine .inr (zfo (i:=i) (fun j _ hj=>?_) hi ?_)
  ·rw [e]
   have hw:zbT m j=false:=by rw [zcW h j,hb]; simpa using fun x=>hj x.symm
   unfold zeL
   rw [show zbT { m with store:=s,server:={ m.server with plan:=rest } } j=zbT m j from rfl,hw]
   rfl
  ·rw [e]
   have hw:zbT m i=true:=by rw [zcW h i,hb]; simp
   unfold zeL
   rw [show zbT { m with store:=s,server:={ m.server with plan:=rest } } i=zbT m i from rfl,hw]
   rw [hp] at w5 ⊢
   rw [show zbC ({ m with store:=s,server:={ m.server with plan:=rest } }:Mc).clients i=zbC m.clients i from rfl,zb0 hc]
   generalize (l.getD i []).length=L at *
   simp [zjq] at w5 ⊢
   omega
 ·obtain ⟨hi,-,-,-,w5⟩:=h.work i hb
  have hlt:c.got.length < (l.getD i []).length:=by
   cases (h.clients i c hc).phase with
   | rest _ y=>exact absurd hb y
   | wait _ y=>exact absurd hb y
   | work _ _ _ _ _ g=>exact g
   | hear _ y=>exact absurd hb y
   | lost _ y=>exact absurd hb y
  refine .inr (zfo (i:=i) (fun j _ hj=>?_) hi ?_)
  ·rw [e]
   have hw:zbT m j=false:=by rw [zcW h j,hb]; simpa using fun x=>hj x.symm
   unfold zeL
   rw [hw,show zbT { m with store:=s,server:=zbQ m.server.gen m.server.box,clients:=m.clients.set i { c with box:=[b] } } j=false from rfl]
   rw [show zbC ({ m with store:=s,server:=zbQ m.server.gen m.server.box,clients:=m.clients.set i { c with box:=[b] } }:Mc).clients j=zbC m.clients j from zfx hj]
   rw [show ziu { m with store:=s,server:=zbQ m.server.gen m.server.box,clients:=m.clients.set i { c with box:=[b] } } j=ziu m j by unfold ziu; simp only []; rw [zeA hj]]
   rfl
  ·rw [e]
   have hw:zbT m i=true:=by rw [zcW h i,hb]; simp
   unfold zeL
   rw [hw,show zbT { m with store:=s,server:=zbQ m.server.gen m.server.box,clients:=m.clients.set i { c with box:=[b] } } i=false from rfl]
   rw [show zcX { m with store:=s,server:=zbQ m.server.gen m.server.box,clients:=m.clients.set i { c with box:=[b] } } i=zcX m i from rfl,zdw hl h i,decide_eq_false hk]
   rw [zjc (m:={ m with store:=s,server:=zbQ m.server.gen m.server.box,clients:=m.clients.set i { c with box:=[b] } }) (zfG hc)]
   rw [show zbC ({ m with store:=s,server:=zbQ m.server.gen m.server.box,clients:=m.clients.set i { c with box:=[b] } }:Mc).clients i=c.got.length by rw [zb0 (zfG hc)],zb0 hc,hp]
   generalize (l.getD i []).length=L at *
   simp [zjq]
   omega
 ·have hk:k < l.length:=h.ksl k (by rw [hks]; simp)
  have hlt:c.got.length < (l.getD k []).length:=by
   have hin:k ∈ ks:=by rw [hks]; simp
   cases (h.clients k c hc).phase with
   | rest y=>exact absurd hin y
   | wait _ _ _ _ _ g=>exact g
   | work y=>exact absurd hin y
   | hear y=>exact absurd hin y
   | lost y=>exact absurd hin y
  have hnd:=h.nodup
  rw [hks] at hnd
  have hnk:=(List.nodup_cons.1 hnd).1
  have hk3':∀ x ∈ ks',x < 3:=fun x hx=>hk3 x (by rw [hks]; simp [hx])
  have hbusy:m.server.busy=false:=by have:=h.busy; rw [hb] at this; exact this
  refine .inr (zfo (i:=k) (fun j _ hj=>?_) hk ?_)
  ·rw [e]
   unfold zeL
   rw [show zbT { m with server:={ m.server with box:=ks'.map (fun k=>zbF (zbe l k (zbC m.clients k))) },clients:=m.clients.set k { c with box:=[b] } } j=zbT m j from rfl]
   rw [show zbC ({ m with server:={ m.server with box:=ks'.map (fun k=>zbF (zbe l k (zbC m.clients k))) },clients:=m.clients.set k { c with box:=[b] } }:Mc).clients j=zbC m.clients j from zfx hj]
   rw [show ziu { m with server:={ m.server with box:=ks'.map (fun k=>zbF (zbe l k (zbC m.clients k))) },clients:=m.clients.set k { c with box:=[b] } } j=ziu m j by unfold ziu; simp only []; rw [zeA hj]]
   rw [show zcX { m with server:={ m.server with box:=ks'.map (fun k=>zbF (zbe l k (zbC m.clients k))) },clients:=m.clients.set k { c with box:=[b] } } j=zcX m j by
    rw [zdw hl h j,hks]
    unfold zcX
    simp only []
    rw [ziz hk3']
    simp [hj]]
  ·rw [e]
   have hw:zbT m k=false:=by rw [zcW h k,hb]; simp
   unfold zeL
   rw [show zbT { m with server:={ m.server with box:=ks'.map (fun k=>zbF (zbe l k (zbC m.clients k))) },clients:=m.clients.set k { c with box:=[b] } } k=zbT m k from rfl,hw,zdw hl h k]
   rw [show zcX { m with server:={ m.server with box:=ks'.map (fun k=>zbF (zbe l k (zbC m.clients k))) },clients:=m.clients.set k { c with box:=[b] } } k=false by
    unfold zcX
    simp only []
    rw [ziz hk3']
    simp [hnk]]
   rw [zjc (m:={ m with server:={ m.server with box:=ks'.map (fun k=>zbF (zbe l k (zbC m.clients k))) },clients:=m.clients.set k { c with box:=[b] } }) (zfG hc)]
   rw [show zbC ({ m with server:={ m.server with box:=ks'.map (fun k=>zbF (zbe l k (zbC m.clients k))) },clients:=m.clients.set k { c with box:=[b] } }:Mc).clients k=c.got.length by rw [zb0 (zfG hc)],zb0 hc,hks]
   generalize (l.getD k []).length=L at *
   simp [zjq]
   omega
 ·have hk:k < l.length:=h.ksl k (by rw [hks]; simp)
  obtain ⟨c,hc⟩:∃ c,m.clients[k]?=some c:=⟨_,List.getElem?_eq_getElem (by rw [h.nc]; exact hk)⟩
  have hlt:c.got.length < (l.getD k []).length:=by
   have hin:k ∈ ks:=by rw [hks]; simp
   cases (h.clients k c hc).phase with
   | rest y=>exact absurd hin y
   | wait _ _ _ _ _ g=>exact g
   | work y=>exact absurd hin y
   | hear y=>exact absurd hin y
   | lost y=>exact absurd hin y
  have hk3':∀ x ∈ ks',x < 3:=fun x hx=>hk3 x (by rw [hks]; simp [hx])
  refine .inr (zfo (i:=k) (fun j _ hj=>?_) hk ?_)
  ·rw [e]
   have hw:zbT m j=false:=by rw [zcW h j,hb]; simp
   unfold zeL
   rw [hw,show zbT { m with server:={ m.server with box:=ks'.map (fun k=>zbF (zbe l k (zbC m.clients k))),busy:=true,now:=r,plan:=p,says:=s } } j=false by
    unfold zbT
    simp only []
    rw [hr]
    simp
    omega]
   rw [show zcX { m with server:={ m.server with box:=ks'.map (fun k=>zbF (zbe l k (zbC m.clients k))),busy:=true,now:=r,plan:=p,says:=s } } j=zcX m j by
    rw [zdw hl h j,hks]
    unfold zcX
    simp only []
    rw [ziz hk3']
    simp [hj]]
   rfl
  ·rw [e]
   have hw:zbT m k=false:=by rw [zcW h k,hb]; simp
   unfold zeL
   rw [hw,zdw hl h k,show zbT { m with server:={ m.server with box:=ks'.map (fun k=>zbF (zbe l k (zbC m.clients k))),busy:=true,now:=r,plan:=p,says:=s } } k=true by
    unfold zbT
    simp only []
    rw [hr]
    simp]
   rw [show zbC ({ m with server:={ m.server with box:=ks'.map (fun k=>zbF (zbe l k (zbC m.clients k))),busy:=true,now:=r,plan:=p,says:=s } }:Mc).clients k=zbC m.clients k from rfl,zb0 hc,hks]
   generalize (l.getD k []).length=L at *
   simp [zjq]
   omega
end
open Go Go.RowKit

section
variable {l:List (List Cl)} {m:Mc} {ks:List Nat} {bz:Option Nat}

theorem zpk (h:MInv l m ks bz):zhL l (zbL m)=zhL l m:=by
 unfold zbL
 by_cases hu:m.up=true
 ·rw [if_pos hu]
 rw [if_neg hu]
 obtain ⟨rfl,rfl,-,-⟩:=h.down (by simpa using hu)
 by_cases hp:1 < m.pause
 ·rw [if_pos hp]; rfl
 rw [if_neg hp]
 have hs:=h.idle rfl
 have hb:m.server.box=[]:=h.box
 rw [hb] at hs
 refine zqk fun i _=>?_
 unfold zeL zbT zcX ziu
 rw [hs]
 rfl

theorem zoE (n:Int) (m:Mc):(doM m 1 n).1.up=m.up/\(doM m 1 n).1.pause=m.pause/\(doM m 1 n).1.falls=m.falls/\(doM m 1 n).1.clients.length=m.clients.length:=by
 unfold doM
 rw [if_pos rfl]
 split
 ·exact ⟨rfl,rfl,rfl,rfl⟩
 ·simp only []
  split
  ·exact ⟨rfl,rfl,rfl,rfl⟩
  ·split
   ·split
    ·exact ⟨rfl,rfl,rfl,rfl⟩
    ·exact ⟨rfl,rfl,rfl,by simp⟩
   ·exact ⟨rfl,rfl,rfl,by simp⟩
theorem zoM (n:Int) (m:Mc):(doM m 2 n).1.up=m.up/\(doM m 2 n).1.pause=m.pause/\(doM m 2 n).1.falls=m.falls/\(doM m 2 n).1.clients.length=m.clients.length:=by
 unfold doM
 rw [if_neg (by decide),if_pos rfl]
 split
 ·exact ⟨rfl,rfl,rfl,rfl⟩
 ·simp only []
  split
  ·exact ⟨rfl,rfl,rfl,rfl⟩
  ·split
   ·split
    ·exact ⟨rfl,rfl,rfl,by simp⟩
    ·exact ⟨rfl,rfl,rfl,rfl⟩
   ·exact ⟨rfl,rfl,rfl,rfl⟩

def zqq (l:List (List Cl)) (m:Mc) (ks:List Nat) (bz:Option Nat) (i:Nat):Prop :=
 ∀ c,m.clients[i]?=some c->c.box=[]/\(l.getD i []).length<=c.got.length∨i ∈ ks∨bz=some i∨m.up=false

def zc9 (is:List Nat) (m:Mc):Mc:=is.foldl (fun m (n:Nat)=>(doM m 1 (n:Int)).1) m

theorem zif (hl:za9 l) (is:List Nat) (his:∀ i ∈ is,i < l.length):∀ {m:Mc} {ks:List Nat} {bz:Option Nat},MInv l m ks bz ->
  (∃ ks' bz',MInv l (zc9 is m) ks' bz')/\(zc9 is m).up=m.up/\(zc9 is m).pause=m.pause/\(zc9 is m).clients.length=m.clients.length /\
  ((zc9 is m=m/\∀ i ∈ is,zqq l m ks bz i)∨zhL l (zc9 is m) < zhL l m):=by
 induction is with
 | nil=>intro m ks bz h; exact ⟨⟨ks,bz,h⟩,rfl,rfl,rfl,.inl ⟨rfl,fun i hi=>by cases hi⟩⟩
 | cons i is ih =>
  intro m ks bz h
  have hi:i < l.length:=his i (by simp)
  obtain ⟨c,hc⟩:∃ c,m.clients[i]?=some c:=⟨_,List.getElem?_eq_getElem (by rw [h.nc]; exact hi)⟩
  obtain ⟨ks1,bz1,h1⟩:=zjx hl h (i:Int)
  have hup:=zoE (i:Int) m
  have hstep:zc9 (i::is) m=zc9 is (doM m 1 (i:Int)).1:=rfl
  have his':∀ j ∈ is,j < l.length:=fun j hj=>his j (by simp [hj])
  rcases zm5 hl h hc with ⟨e,hbl⟩ | hlt
  ·rw [hstep,e]
   obtain ⟨a1,a2,a3,a4,a5⟩:=ih his' h
   refine ⟨a1,a2,a3,a4,?_⟩
   rcases a5 with ⟨b1,b2⟩ | b
   ·refine .inl ⟨b1,fun j hj=>?_⟩
    rcases List.mem_cons.1 hj with rfl | hj
    ·intro d hd
     obtain rfl:c=d:=by rw [hc] at hd; exact Option.some.inj hd
     exact hbl
    ·exact b2 j hj
   ·exact .inr b
  ·rw [hstep]
   obtain ⟨a1,a2,a3,a4,a5⟩:=ih his' h1
   refine ⟨a1,by rw [a2,hup.1],by rw [a3,hup.2.1],by rw [a4,hup.2.2.2],.inr ?_⟩
   rcases a5 with ⟨b1,_⟩ | b
   ·rw [b1]; exact hlt
   ·omega

def zd8 (m:Mc):Bool:=m.clients.all fun c=>decide ((c.calls.length:Int)<=c.at_)
def zoW (l:List (List Cl)) (m:Mc):Nat:=zhL l m+m.pause.toNat

theorem zoc (hl:za9 l) (h:MInv l m ks bz):∃ ks' bz',MInv l (roundM m) ks' bz':=by
 obtain ⟨ks1,bz1,h1⟩:=zhr h
 obtain ⟨⟨ks2,bz2,h2⟩,-,-,-,-⟩:=zif hl (List.range (zbL m).clients.length) (fun i hi=>by rw [List.mem_range,h1.nc] at hi; exact hi) h1
 exact zjw hl h2 0

theorem zkk (hl:za9 l) (h:MInv l m ks bz) (hn:zd8 m=false):zoW l (roundM m) < zoW l m:=by
 obtain ⟨ks1,bz1,h1⟩:=zhr h
 have hphi:=zpk h
 obtain ⟨⟨ks2,bz2,h2⟩,u2,p2,n2,r2⟩:=zif hl (List.range (zbL m).clients.length) (fun i hi=>by rw [List.mem_range,h1.nc] at hi; exact hi) h1
 have hr:roundM m=(doM (zc9 (List.range (zbL m).clients.length) (zbL m)) 2 0).1:=rfl
 have hs:=znv hl h2 0
 have hsu:=zoM 0 (zc9 (List.range (zbL m).clients.length) (zbL m))
 have hle:zhL l (zc9 (List.range (zbL m).clients.length) (zbL m))<=zhL l m:=by
  rcases r2 with ⟨e,_⟩ | hlt
  ·rw [e,hphi]; exact Nat.le_refl _
  ·omega
 have hle2:zhL l (roundM m)<=zhL l (zc9 (List.range (zbL m).clients.length) (zbL m)):=by
  rw [hr]
  rcases hs with ⟨e,_⟩ | hlt
  ·rw [e]; exact Nat.le_refl _
  ·omega
 have hpz:(roundM m).pause=(zbL m).pause:=by rw [hr,hsu.2.1,p2]
 unfold zoW
 rw [hpz]
 by_cases hu:m.up=true
 ·have ht:zbL m=m:=by unfold zbL; rw [if_pos hu]
  have hp0:=h.upp hu
  rw [ht] at r2 hpz hr hs ⊢
  rw [ht] at h2 hle hle2 h1
  rcases r2 with ⟨e,hbl⟩ | hlt
  ·rw [e] at hs hr
   rcases hs with ⟨_,hx⟩ | hlt
   ·exfalso
    rcases hx with hx | ⟨rfl,rfl⟩
    ·rw [hu] at hx; cases hx
    ·-- nothing is in the server's hands: all are idle
     rw [e] at h2
     have hid:zd8 m=true:=by
      unfold zd8
      rw [List.all_eq_true]
      intro c hc
      obtain ⟨i,hi,rfl⟩:=List.mem_iff_getElem.1 hc
      have hci:=List.getElem?_eq_getElem hi
      have ci:=h.clients i _ hci
      have hb:=hbl i (by rw [List.mem_range]; exact hi) _ hci
      have key:(l.getD i []).length<=m.clients[i].got.length:=by
       rcases hb with hb | hb | hb | hb
       ·exact hb.2
       ·exfalso
        have a1:=zdw hl h1 i
        rw [zdw hl h2 i,decide_eq_true hb] at a1
        simp at a1
       ·exfalso
        have a1:=zcW h1 i
        rw [zcW h2 i,decide_eq_true hb] at a1
        simp at a1
       ·rw [hu] at hb; cases hb
      rw [decide_eq_true_eq,ci.calls,ci.at_]
      omega
     rw [hid] at hn
     cases hn
   ·rw [hr]; omega
  ·omega
 ·have hd:=h.down (by simpa using hu)
  have hpt:(zbL m).pause.toNat < m.pause.toNat:=by
   unfold zbL
   rw [if_neg hu]
   by_cases hp:1 < m.pause
   ·rw [if_pos hp]; show (m.pause - 1).toNat < _; omega
   ·rw [if_neg hp]; show (0:Int).toNat < _; omega
  omega

def zbs:Nat->Mc->Mc×Nat
 | 0,m=>(m,0)
 | n+1,m=>if zd8 m then (m,0) else ((zbs n (roundM m)).1,(zbs n (roundM m)).2+1)
theorem zig (hl:za9 l):∀ (n:Nat) {m:Mc} {ks:List Nat} {bz:Option Nat},MInv l m ks bz->zoW l m<=n->zd8 (zbs n m).1=true/\(zbs n m).2<=n/\∃ ks' bz',MInv l (zbs n m).1 ks' bz'
 | 0,m,ks,bz,h,hp=>by
  refine ⟨?_,Nat.le_refl _,ks,bz,h⟩
  show zd8 m=true
  cases hi:zd8 m with
  | true=>rfl
  | false=>have:=zkk hl h hi; omega
 | n+1,m,ks,bz,h,hp=>by
  unfold zbs
  cases hi:zd8 m with
  | true=>exact ⟨hi,Nat.zero_le _,ks,bz,h⟩
  | false =>
   have hlt:=zkk hl h hi
   obtain ⟨ks1,bz1,h1⟩:=zoc hl h
   obtain ⟨a,b,c⟩:=zig hl n h1 (by omega)
   refine ⟨a,?_,c⟩
   show (zbs n (roundM m)).2+1<=n+1
   omega
theorem zpQ (hl:za9 l) (h:MInv l m ks bz):zoW l m<=195:=by
 have h3:=hl.1
 have hp:m.pause.toNat<=3:=by
  by_cases hu:m.up=true
  ·rw [h.upp hu]; decide
  ·have:=h.down (by simpa using hu); omega
 have hs:zhL l m<=l.length * 64:=zjd fun i hi=>by
  have h8:=(hl.2 _ (zgs (d:=[]) hi)).1
  unfold zeL
  omega
 have:l.length * 64<=192:=by omega
 unfold zoW
 omega
theorem zkP (hl:za9 l) (h:MInv l m ks bz):zd8 (zbs 300 m).1=true/\(zbs 300 m).2<=300/\∃ ks' bz',MInv l (zbs 300 m).1 ks' bz' :=
 zig hl 300 h (by have:=zpQ hl h; omega)
theorem zp6 (h:MInv l m ks bz) (hi:zd8 m=true) {i:Nat} {c:Cn} (hc:m.clients[i]?=some c):c.got.length=(l.getD i []).length/\(zb4 m.store.past i).length=(l.getD i []).length/\c.got=zcu m.store.past i:=by
 have ci:=h.clients i c hc
 have hm:c ∈ m.clients:=List.mem_of_getElem? hc
 unfold zd8 at hi
 rw [List.all_eq_true] at hi
 have:=hi c hm
 rw [decide_eq_true_eq,ci.calls,ci.at_] at this
 have h1:=ci.most
 have h2:=ci.step
 have h3:=zfv m.store.past i
 refine ⟨by omega,by omega,?_⟩
 have hg:=ci.got
 rwa [List.take_of_length_le (by omega)] at hg
end
open Go Go.RowKit

theorem zn0 (r:Rq) (b:List Rq) (i:Nat):zb4 (r::b) i=if r.client=(i:Int) then r::zb4 b i else zb4 b i:=by
 unfold zb4
 rw [List.filter_cons]
 by_cases h:r.client=(i:Int)
 ·simp [h]
 ·simp [h]

section
variable {l:List (List Cl)} {m:Mc} {ks:List Nat} {bz:Option Nat}

end

/-! What was done stays. -/

structure Grow (m m':Mc):Prop where
 past:∃ s,m'.store.past=m.store.past++s
 len:m'.clients.length=m.clients.length
 got:∀ (i:Nat) (c:Cn),m.clients[i]?=some c->∃ (c':Cn) (t:List Rp),m'.clients[i]?=some c'/\c'.got=c.got++t

theorem Grow.refl (m:Mc):Grow m m:=⟨⟨[],by simp⟩,rfl,fun i c h=>⟨c,[],h,by simp⟩⟩
theorem Grow.trans {a b c:Mc} (h:Grow a b) (k:Grow b c):Grow a c:=by
 refine ⟨?_,k.len.trans h.len,fun i x hx=>?_⟩
 ·obtain ⟨s,hs⟩:=h.past
  obtain ⟨t,ht⟩:=k.past
  exact ⟨s++t,by rw [ht,hs,List.append_assoc]⟩
 ·obtain ⟨y,t,hy,e⟩:=h.got i x hx
  obtain ⟨z,u,hz,f⟩:=k.got i y hy
  exact ⟨z,t++u,hz,by rw [f,e,List.append_assoc]⟩

/-! A machine is whole. -/

/-! Alone it is as one by one. -/

theorem zni {calls:List Cl} {m:Mc} {ks:List Nat} {bz:Option Nat} (h:MInv [calls] m ks bz):zb4 m.store.past 0=m.store.past:=by
 unfold zb4
 rw [List.filter_eq_self]
 intro r hr
 obtain ⟨i,t,hi,-,rfl⟩:=h.past r hr
 have:i=0:=by simpa using hi
 subst this
 simp [zbe]

theorem zm2 {calls:List Cl} {m:Mc} {ks:List Nat} {bz:Option Nat} (h:MInv [calls] m ks bz):zcu m.store.past 0=(allCl (m.store.past.map Rq.call)).2.map fun x=>⟨x.1,x.2⟩:=by
 unfold zcu
 have hall:∀ x ∈ m.store.past.zip (allCl (m.store.past.map Rq.call)).2,decide (x.1.client=((0:Nat):Int))=true:=fun x hx=>by
  have hm:=(List.of_mem_zip hx).1
  obtain ⟨i,t,hi,-,e⟩:=h.past x.1 hm
  have:i=0:=by simpa using hi
  subst this
  rw [e]
  simp [zbe]
 rw [List.filter_eq_self.2 hall]
 have hlen:(allCl (m.store.past.map Rq.call)).2.length=m.store.past.length:=by rw [zkZ]; simp
 generalize (allCl (m.store.past.map Rq.call)).2=q at *
 clear hall h
 generalize m.store.past=p at *
 induction p generalizing q with
 | nil=>cases q with
  | nil=>rfl
  | cons _ _=>cases hlen
 | cons r p ih=>cases q with
  | nil=>cases hlen
  | cons x q =>
   simp only [List.zip_cons_cons,List.map_cons]
   rw [ih q (by simpa using hlen)]

theorem zqd {calls:List Cl} {m:Mc} {ks:List Nat} {bz:Option Nat} (h:MInv [calls] m ks bz) (hi:zd8 m=true) :
  m.clients.length=1/\∀ c,m.clients[0]?=some c->c.got=(allCl calls).2.map (fun x=>⟨x.1,x.2⟩)/\zbI (zaB m.store.cells m.store.undo)=(allCl calls).1:=by
 refine ⟨h.nc,fun c hc=>?_⟩
 obtain ⟨-,h2,h3⟩:=zp6 h hi hc
 have ci:=h.clients 0 c hc
 have hp:m.store.past.map Rq.call=calls:=by
  rw [<- zni h,ci.done,h2]
  refine List.ext_getElem (by simp) fun k k1 k2=>?_
  simp [zbe,k2]
 refine ⟨by rw [h3,zm2 h,hp],by rw [h.nm]; unfold zdX; rw [hp]⟩

open Go Go.RowKit

theorem sumTo_pick (g:Nat->Nat) (k c:Nat):∀ n,zdi (fun i=>g i+if k=i then c else 0) n=zdi g n+if k < n then c else 0
 | 0=>by simp [zdi]
 | n+1=>by
  unfold zdi
  rw [sumTo_pick g k c n]
  by_cases h1:k < n
  ·rw [if_pos h1,if_neg (by omega),if_pos (by omega)]; omega
  ·rw [if_neg h1]
   by_cases h2:k=n
   ·rw [if_pos h2,if_pos (by omega)]; omega
   ·rw [if_neg h2,if_neg (by omega)]; omega

theorem zpx {n:Nat} {p:List Rq} (hp:∀ r ∈ p,∃ i:Nat,i < n/\r.client=(i:Int)) (f:Rq->Bool):zdi (fun i=>(zb4 p i).countP f) n=p.countP f:=by
 induction p with
 | nil =>
  have:zdi (fun i=>(zb4 [] i).countP f) n=zdi (fun _=>0) n:=rfl
  rw [this]
  clear this hp
  induction n with
  | zero=>rfl
  | succ n ih=>unfold zdi; rw [ih]; rfl
 | cons r p ih =>
  obtain ⟨k,hk,hc⟩:=hp r (by simp)
  have e:(fun i=>(zb4 (r::p) i).countP f)=fun i=>(zb4 p i).countP f+if k=i then (if f r then 1 else 0) else 0:=by
   funext i
   rw [zn0,hc]
   by_cases hi:k=i
   ·subst hi; rw [if_pos rfl,if_pos rfl,List.countP_cons]
   ·rw [if_neg (by omega),if_neg hi]; rfl
  rw [e,sumTo_pick,if_pos hk,ih (fun x hx=>hp x (by simp [hx])),List.countP_cons]

/-! zdr counts once. -/

/-! Nothing is lost in turning. -/

open Go Go.RowKit

structure SzM (m:Mc):Prop where
 undo:m.store.undo.length+m.server.plan.length<=3
 answers:m.store.answers.length<=m.store.past.length

theorem zrv (l:List (List Cl)):SzM (za4 l):=⟨(by decide:(0:Nat)+0<=3),Nat.le_refl _⟩
theorem zph {s:St} {v:Sv} (h1:s.undo.length+v.plan.length<=3) (h2:s.answers.length<=s.past.length) (hc:v.busy=false->s.undo=[]) :
  (zaC s v).1.undo.length+(zaC s v).2.1.plan.length<=3/\(zaC s v).1.answers.length<=(zaC s v).1.past.length:=by
 unfold zaC
 split
 ·split
  ·rename_i p l hp
   obtain ⟨w1,w2,w3⟩:=ziI s p
   rw [hp] at h1
   simp only [List.length_cons] at h1
   exact ⟨by simp only []; omega,by simp only [w2,w3]; exact h2⟩
  ·have:=zhQ s.answers ⟨v.now.client,v.now.token,v.says⟩
   refine ⟨by simp [zbW,zbQ],?_⟩
   simp only [zbW,List.length_append,List.length_cons,List.length_nil]
   omega
 ·rename_i hb
  have hu:=hc (by simpa using hb)
  split
  ·exact ⟨h1,h2⟩
  ·dsimp only
   have hp:∀ c,s.undo.length+(zbn (zbI s.cells) c).length<=3:=fun c=>by
    rw [hu]
    simpa using ziG (zbI s.cells) c
   repeat' split
   all_goals first | exact ⟨h1,h2⟩ | exact ⟨hp _,h2⟩
theorem zoR (v:Sv) (b:List UInt8):(zbY v b).1.plan=v.plan:=by
 unfold zbY
 split <;> rfl
theorem znM {m:Mc} (hs:SzM m):SzM (zbL m):=by
 unfold zbL
 split
 ·exact hs
 ·split
  ·exact ⟨hs.undo,hs.answers⟩
  ·exact ⟨(by decide:(0:Nat)+0<=3),hs.answers⟩
theorem zrd {l:List (List Cl)} {m:Mc} {ks:List Nat} {bz:Option Nat} (h:MInv l m ks bz) (hs:SzM m) (kind n:Int):SzM (doM m kind n).1:=by
 unfold doM
 split
 ·split
  ·exact hs
  ·dsimp only
   split
   ·exact hs
   ·split
    ·split
     ·exact hs
     ·exact ⟨by simp only [zoR]; exact hs.undo,hs.answers⟩
    ·exact ⟨hs.undo,hs.answers⟩
 ·split
  ·split
   ·exact hs
   ·rename_i hu
    dsimp only
    have hu:m.up=true:=by simpa using hu
    obtain ⟨z1,z2⟩:=zph hs.undo hs.answers fun hb=>h.clean hu (by
     have hz:=h.busy
     rw [hb] at hz
     cases bz with
     | none=>rfl
     | some i=>cases hz)
    repeat' split
    all_goals first | exact hs | exact ⟨z1,z2⟩
  ·split
   ·unfold zd2
    split
    ·exact hs
    ·split
     ·exact hs
     ·exact ⟨Nat.le_trans (Nat.add_le_add_left (Nat.zero_le _) _) hs.undo,hs.answers⟩
   ·split
    ·exact znM hs
    ·exact hs
theorem znE {l:List (List Cl)} (hl:za9 l):∀ (steps:List (Int×Int)) {m:Mc} {ks:List Nat} {bz:Option Nat},MInv l m ks bz->SzM m->SzM (zcr m steps)
 | [],_,_,_,_,hs=>hs
 | p::q,m,ks,bz,h,hs=>by
  obtain ⟨ks1,bz1,h1⟩:=zne hl h p.1 p.2
  exact znE hl q h1 (zrd h hs p.1 p.2)
theorem zrh {l:List (List Cl)} (hl:za9 l) (steps:List (Int×Int)):SzM (zcr (za4 l) steps):=by
 obtain ⟨ks,bz,h⟩:=zk8 hl []
 exact znE hl steps (m:=za4 l) h (zrv l)

theorem zpu {l:List (List Cl)} (hl:za9 l) {m:Mc} {ks:List Nat} {bz:Option Nat} (h:MInv l m ks bz) (hs:SzM m):SizeM m 24:=by
 have hp:m.store.past.length<=24:=by
  have h1:=zpx (n:=l.length) (p:=m.store.past) (fun r hr=>by
   obtain ⟨i,t,hi,_,rfl⟩:=h.past r hr
   exact ⟨i,hi,rfl⟩) (fun _=>true)
  rw [List.countP_true] at h1
  have h2:zdi (fun i=>(zb4 m.store.past i).length) l.length<=l.length * 8:=zjd fun i hi=>by
   obtain ⟨c,hc⟩:∃ c,m.clients[i]?=some c:=⟨m.clients[i]'(by rw [h.nc]; exact hi),List.getElem?_eq_getElem _⟩
   have h3:=(h.clients i c hc).most
   have h4:(l.getD i []).length<=8:=by
    rw [List.getD_eq_getElem?_getD,List.getElem?_eq_getElem hi]
    exact (hl.2 _ (List.getElem_mem hi)).1
   omega
  have h5:=hl.1
  have h6:m.store.past.length<=l.length * 8:=by
   rw [<- h1]
   exact h2
  omega
 refine ⟨?_,?_,hp,?_,fun c hc=>?_⟩
 ·have:=hs.undo; omega
 ·have:=hs.answers; omega
 ·rw [h.box,List.length_map]
  have:=zhx h.nodup h.ksl
  have:=hl.1
  omega
 ·obtain ⟨i,hi⟩:=List.mem_iff_getElem?.1 hc
  have ci:=h.clients i c hi
  have h3:=ci.most
  have h4:(l.getD i []).length<=8:=by
   rw [List.getD_eq_getElem?_getD]
   cases e:l[i]? with
   | none=>exact Nat.zero_le _
   | some y=>exact (hl.2 y (List.mem_of_getElem? e)).1
  have h5:=ci.step
  refine ⟨by omega,?_⟩
  cases ci.phase with
  | rest _ _ _ e _=>rw [e]; exact Nat.zero_le _
  | wait _ _ _ _ e _=>rw [e]; exact Nat.zero_le _
  | work _ _ _ _ e _ _=>rw [e]; exact Nat.zero_le _
  | lost _ _ _ e _ _=>rw [e]; exact Nat.zero_le _
  | hear _ _ _ _ e=>rw [e]; exact (by decide:(1:Nat)<=24)

structure GzM (l:List (List Cl)) (m:Mc):Prop where
 right:za9 l
 inv:∃ ks bz,MInv l m ks bz
 sz:SzM m
theorem GzM.size {l:List (List Cl)} {m:Mc} (h:GzM l m):SizeM m 24:=by
 obtain ⟨h1,⟨ks,bz,h2⟩,h3⟩:=h
 exact zpu h1 h2 h3
theorem zpw {l:List (List Cl)} {m:Mc} (h:GzM l m) (kind n:Int):GzM l (doM m kind n).1:=by
 obtain ⟨h1,⟨ks,bz,h2⟩,h3⟩:=h
 exact ⟨h1,zne h1 h2 kind n,zrd h2 h3 kind n⟩
theorem zqZ {l:List (List Cl)} {m:Mc} (h:GzM l m):GzM l (zbL m):=by
 obtain ⟨h1,⟨ks,bz,h2⟩,h3⟩:=h
 exact ⟨h1,⟨_,_,(zhr h2).choose_spec.choose_spec⟩,znM h3⟩
theorem zk5 {l:List (List Cl)} (hl:za9 l) (steps:List (Int×Int)):GzM l (zcr (za4 l) steps):=⟨hl,zk8 hl steps,zrh hl steps⟩
theorem znT {l:List (List Cl)}:∀ (q:List Nat) {m:Mc},GzM l m->GzM l (q.foldl (fun m (n:Nat)=>(doM m 1 (n:Int)).1) m)
 | [],_,h=>h
 | n::q,_,h=>znT q (zpw h 1 (n:Int))
theorem zmy {l:List (List Cl)} {m:Mc} (h:GzM l m):GzM l (roundM m):=zpw (znT _ (zqZ h)) 2 0
theorem zkz {l:List (List Cl)}:∀ (n:Nat) {m:Mc},GzM l m->GzM l (zbs n m).1
 | 0,_,h=>h
 | n+1,_,h=>by
  unfold zbs
  split
  ·exact h
  ·exact zkz n (zmy h)

open Go Go.RowKit

theorem zpJ {i t:Nat} {r:Rp} (hi:i < 3) (ht:t < 8) (h:zqx r):zbw ⟨i,t,r⟩=0:=by
 obtain ⟨h1,h2,h3,h4,h5⟩:=h
 unfold zbw
 rw [if_neg]
 simp only []
 omega
theorem znh {l:List (List Cl)} (hl:za9 l) {m:Mc} {ks:List Nat} {bz:Option Nat} (h:MInv l m ks bz) :
  (zaC m.store m.server).2.2.1=[]∨∃ (i:Nat) (t:Int) (r:Rp),zbw ⟨i,t,r⟩=0/\i < m.clients.length/\(zaC m.store m.server).2.2.1=zbX ⟨i,t,r⟩:=by
 have h3:=hl.1
 have h8:∀ i,(l.getD i []).length<=8:=fun i=>by
  rw [List.getD_eq_getElem?_getD]
  cases e:l[i]? with
  | none=>simp
  | some x=>exact (hl.2 x (List.mem_of_getElem? e)).1
 cases bz with
 | some i =>
  have hbusy:m.server.busy=true:=h.busy
  obtain ⟨hi,w2,w3,w4,w5⟩:=h.work i rfl
  obtain ⟨c,hc⟩:∃ c,m.clients[i]?=some c:=⟨_,List.getElem?_eq_getElem (by rw [h.nc]; exact hi)⟩
  have ci:=h.clients i c hc
  rw [zb0 hc] at w2
  cases hp:m.server.plan with
  | cons q rest=>rw [zgm hbusy hp]; exact .inl rfl
  | nil =>
   have p5:c.got.length < (l.getD i []).length:=by
    cases ci.phase with
    | rest a b=>exact absurd rfl b
    | wait a b=>exact absurd rfl b
    | work a b d e f g k=>exact g
    | hear a b=>exact absurd rfl b
    | lost a b=>exact absurd rfl b
   have hk:=zeV hl hi p5
   rw [zf0 hbusy hp,w2]
   refine .inr ⟨i,c.got.length,m.server.says,zpJ (by omega) (by have:=h8 i; omega) ?_,by rw [h.nc]; exact hi,rfl⟩
   rw [w3,w2]
   exact znJ (zg7 hl h.past) hk
 | none =>
  have hbusy:m.server.busy=false:=h.busy
  cases ks with
  | nil=>rw [zhg hbusy (by rw [h.box]; rfl)]; exact .inl rfl
  | cons k ks =>
   have hk:k < l.length:=h.ksl k (by simp)
   obtain ⟨c,hc⟩:∃ c,m.clients[k]?=some c:=⟨_,List.getElem?_eq_getElem (by rw [h.nc]; exact hk)⟩
   have ci:=h.clients k c hc
   have p5:c.got.length < (l.getD k []).length:=by
    cases ci.phase with
    | rest a=>exact absurd (by simp) a
    | wait a b d e f g=>exact g
    | work a=>exact absurd (by simp) a
    | hear a=>exact absurd (by simp) a
    | lost a=>exact absurd (by simp) a
   have hbox:m.server.box=zbF (zbe l k c.got.length)::ks.map (fun k=>zbF (zbe l k (zbC m.clients k))):=by
    rw [h.box,List.map_cons,zb0 hc]
   have hlast:=ci.last
   have htl:=zfv m.store.past k
   have hmost:=ci.most
   have hS:=serve_take (s:=m.store) hbusy hbox (zgH hl hk p5)
   rw [show (zbe l k c.got.length).client=(k:Int) from rfl,hlast] at hS
   rw [hS]
   by_cases hz:(zb4 m.store.past k).length=0
   ·rw [if_pos hz,if_neg (by simp)]
    exact .inl rfl
   ·rw [if_neg hz]
    have h8k:=h8 k
    repeat' split
    ·exact .inr ⟨k,((zb4 m.store.past k).length - 1:Nat),_,zh8 hl h.past hk (by omega) (by omega),by rw [h.nc]; exact hk,rfl⟩
    ·exact .inl rfl
    ·exact .inl rfl
end Go.Mk

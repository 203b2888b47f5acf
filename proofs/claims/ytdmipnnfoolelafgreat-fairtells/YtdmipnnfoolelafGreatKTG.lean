/- Texts of the proof, merged: Math15 Math16 Math17 Math18 Math27 Math28. -/
import Derived.Test.YtdmipnnfoolelafGreatKTF

namespace Go.Mk
open Go Go.RowKit

def zdo (f:Nat->Nat):Nat->Nat
 | 0=>0
 | n+1=>zdo f n+f n
theorem zkf {f g:Nat->Nat} {n:Nat} (h:∀ i,i < n->f i<=g i):zdo f n<=zdo g n:=by
 induction n with
 | zero=>exact Nat.le_refl _
 | succ n ih =>
  have:=ih (fun i hi=>h i (by omega))
  have:=h n (by omega)
  simp only [zdo]; omega
theorem zfK {f g:Nat->Nat} {n i:Nat} (h:∀ j,j < n->j≠i->f j=g j) (hi:i < n) (hlt:f i < g i):zdo f n < zdo g n:=by
 induction n with
 | zero=>omega
 | succ n ih =>
  simp only [zdo]
  by_cases e:i=n
  ·subst e
   have:zdo f i<=zdo g i:=zkf (fun j hj=>by rw [h j (by omega) (by omega)]; exact Nat.le_refl _)
   omega
  ·have:=ih (fun j hj=>h j (by omega)) (by omega)
   rw [h n (by omega) (fun x=>e x.symm)]
   omega
theorem zqX {f g:Nat->Nat} {n:Nat} (h:∀ i,i < n->f i=g i):zdo f n=zdo g n :=
 Nat.le_antisymm (zkf fun i hi=>by rw [h i hi]; exact Nat.le_refl _) (zkf fun i hi=>by rw [h i hi]; exact Nat.le_refl _)
theorem zkq {f:Nat->Nat} {n b:Nat} (h:∀ i,i < n->f i<=b):zdo f n<=n * b:=by
 induction n with
 | zero=>simp [zdo]
 | succ n ih =>
  have:=ih (fun i hi=>h i (by omega))
  have:=h n (by omega)
  simp only [zdo,Nat.succ_mul]; omega

def zjU (busyWith:Bool) (plan:Nat) (waits:Bool) (has:Bool):Nat:=if busyWith then 5 - plan else if waits then 1 else if has then 6 else 0
def zbZ (m:Mc) (i:Nat):Bool:=m.server.busy && decide (m.server.now.client=(i:Int))
def zc4 (m:Mc) (i:Nat):Bool:=m.server.box.any fun b=>(b.getD 1 0).toNat == i
def ziZ (m:Mc) (i:Nat):Bool:=!(m.clients.getD i (zbO [])).box.isEmpty
def zeY (l:List (List Cl)) (m:Mc) (i:Nat):Nat:=8 * ((l.getD i []).length - zbD m.clients i) - zjU (zbZ m i) m.server.plan.length (zc4 m i) (ziZ m i)
def zh4 (l:List (List Cl)) (m:Mc):Nat:=zdo (zeY l m) l.length

theorem zmc {l:List (List Cl)} {k t:Nat} (h:k < 3):((zbA (zbi l k t)).getD 1 0).toNat=k:=by
 have h1:((byteOf (k:Int)).toNat:Int)=k:=zco (by omega) (by omega)
 have h2:((zbA (zbi l k t)).getD 1 0)=byteOf (k:Int):=rfl
 rw [h2]
 omega
theorem zjh {l:List (List Cl)} {g:Nat->Nat} {ks:List Nat} (hk:∀ k ∈ ks,k < 3) (i:Nat):((ks.map fun k=>zbA (zbi l k (g k))).any fun b=>(b.getD 1 0).toNat == i)=decide (i ∈ ks):=by
 induction ks with
 | nil=>simp
 | cons k ks ih =>
  rw [List.map_cons,List.any_cons,ih (fun x hx=>hk x (by simp [hx])),zmc (hk k (by simp))]
  by_cases e:k=i
  ·simp [e]
  ·have e2:¬ i=k:=fun x=>e x.symm
   simp [e,e2]

section
variable {l:List (List Cl)} {m:Mc} {ks:List Nat} {bz:Option Nat}

theorem zc3 (h:MInv l m ks bz) (i:Nat):zbZ m i=decide (bz=some i):=by
 unfold zbZ
 cases bz with
 | none =>
  have:m.server.busy=false:=h.busy
  simp [this]
 | some j =>
  have hb:m.server.busy=true:=h.busy
  have hn:=(h.work j rfl).2.1
  have hc:m.server.now.client=(j:Int):=by rw [hn]; rfl
  rw [hb,hc]
  by_cases e:j=i
  ·simp [e]
  ·have:¬ (j:Int)=(i:Int):=by omega
   simp [e,this]
theorem zdy (hl:za8 l) (h:MInv l m ks bz) (i:Nat):zc4 m i=decide (i ∈ ks):=by
 unfold zc4
 rw [h.box]
 exact zjh (fun k hk=>by have:=h.ksl k hk; have:=hl.1; omega) i
theorem zkh {i:Nat} {c:Cn} (hc:m.clients[i]?=some c):ziZ m i=!c.box.isEmpty:=by
 unfold ziZ
 rw [List.getD_eq_getElem?_getD,hc]
 rfl

theorem zeO {cl:List Cn} {i k:Nat} {c:Cn} (h:k≠i):(cl.set i c).getD k (zbO [])=cl.getD k (zbO []):=by
 rw [List.getD_eq_getElem?_getD,List.getD_eq_getElem?_getD,List.getElem?_set_ne (fun e=>h e.symm)]
theorem zgf {cl:List Cn} {i:Nat} {c d:Cn} (h:cl[i]?=some c):(cl.set i d)[i]?=some d:=List.getElem?_set_self (List.getElem?_eq_some_iff.1 h).1

theorem zol (hl:za8 l) (h:MInv l m ks bz) {i:Nat} {c:Cn} (hc:m.clients[i]?=some c) :
  ((doM m 1 (i:Int)).1=m/\(c.box=[]/\(l.getD i []).length<=c.got.length∨i ∈ ks∨bz=some i∨m.up=false))∨zh4 l (doM m 1 (i:Int)).1 < zh4 l m:=by
 have hil:i < l.length:=by rw [<- h.nc]; exact (List.getElem?_eq_some_iff.1 hc).1
 have h3:=hl.1
 rcases zlx hl h hc with x | ⟨r,e,hb,hk,hz,hlt⟩ | ⟨e,hb,hk,hz,hlt⟩
 ·exact .inl x
 ·refine .inr (zfK (i:=i) (fun j _ hj=>?_) hil ?_)
  ·rw [e]
   unfold zeY zbZ zc4 ziZ
   simp only []
   rw [zfS hj,zeO hj]
  ·have hw:=zc3 h i
   have hv:=zdy hl h i
   have hs:=zkh hc
   rw [e]
   unfold zeY
   rw [show zbZ { m with clients:=m.clients.set i ⟨c.calls,c.at_+1,false,c.gen,[],c.got++[r]⟩ } i=zbZ m i from rfl,show zc4 { m with clients:=m.clients.set i ⟨c.calls,c.at_+1,false,c.gen,[],c.got++[r]⟩ } i=zc4 m i from rfl,hw,hv,hs,
    zkh (m:={ m with clients:=m.clients.set i ⟨c.calls,c.at_+1,false,c.gen,[],c.got++[r]⟩ }) (zgf hc)]
   rw [show zbD ({ m with clients:=m.clients.set i ⟨c.calls,c.at_+1,false,c.gen,[],c.got++[r]⟩ }:Mc).clients i=c.got.length+1 by
    rw [zb8 (zgf hc)]; simp,zb8 hc,decide_eq_false hz,decide_eq_false hk]
   have hbe:c.box.isEmpty=false:=by cases hbx:c.box with | nil=>exact absurd hbx hb | cons _ _=>rfl
   rw [hbe]
   generalize (l.getD i []).length=L at *
   simp [zjU]
   omega
 ·refine .inr (zfK (i:=i) (fun j _ hj=>?_) hil ?_)
  ·rw [e]
   unfold zeY zbZ zc4 ziZ
   simp only [List.any_append,List.any_cons,List.any_nil,Bool.or_false]
   rw [zfS hj,zeO hj,zmc (show i < 3 by omega)]
   have:(i == j)=false:=by simpa using fun x=>hj x.symm
   rw [this,Bool.or_false]
  ·have hw:=zc3 h i
   have hs:=zkh hc
   rw [e]
   unfold zeY
   rw [show zbZ { m with server:={ m.server with box:=m.server.box++[zbA (zbi l i c.got.length)] },clients:=m.clients.set i ⟨c.calls,c.at_,true,m.server.gen,[],c.got⟩ } i=zbZ m i from rfl,hw,hs,zdy hl h i,zb8 hc]
   rw [show zbD ({ m with server:={ m.server with box:=m.server.box++[zbA (zbi l i c.got.length)] },clients:=m.clients.set i ⟨c.calls,c.at_,true,m.server.gen,[],c.got⟩ }:Mc).clients i=c.got.length by rw [zb8 (zgf hc)],decide_eq_false hz,decide_eq_false hk]
   rw [show zc4 { m with server:={ m.server with box:=m.server.box++[zbA (zbi l i c.got.length)] },clients:=m.clients.set i ⟨c.calls,c.at_,true,m.server.gen,[],c.got⟩ } i=true by
    unfold zc4
    simp only [List.any_append,List.any_cons,List.any_nil,Bool.or_false]
    rw [zmc (show i < 3 by omega)]
    simp,hb]
   generalize (l.getD i []).length=L at *
   simp [zjU]
   omega

theorem zn0 (hl:za8 l) (h:MInv l m ks bz) (n:Int) :
  ((doM m 2 n).1=m/\(m.up=false∨ks=[]/\bz=none))∨zh4 l (doM m 2 n).1 < zh4 l m:=by
 have h3:=hl.1
 have hk3:∀ k ∈ ks,k < 3:=fun k hk=>by have:=h.ksl k hk; omega
 rcases zmj hl h n with x | ⟨i,q,rest,s,hb,hp,e⟩ | ⟨i,c,b,s,hb,hp,hc,hk,e⟩ | ⟨k,ks',c,b,hb,hks,hc,e⟩ | ⟨k,ks',r,p,s,hb,hks,hr,hpl,e⟩
 ·exact .inl x
 ·obtain ⟨hi,-,-,-,w5⟩:=h.work i hb
  obtain ⟨c,hc⟩:∃ c,m.clients[i]?=some c:=⟨_,List.getElem?_eq_getElem (by rw [h.nc]; exact hi)⟩
  have hlt:c.got.length < (l.getD i []).length:=by
   cases (h.clients i c hc).phase with
   | rest _ y=>exact absurd hb y
   | wait _ y=>exact absurd hb y
   | work _ _ _ _ _ g=>exact g
   | hear _ y=>exact absurd hb y
   | lost _ y=>exact absurd hb y
  refine .inr (zfK (i:=i) (fun j _ hj=>?_) hi ?_)
  ·rw [e]
   have hw:zbZ m j=false:=by rw [zc3 h j,hb]; simpa using fun x=>hj x.symm
   unfold zeY
   rw [show zbZ { m with store:=s,server:={ m.server with plan:=rest } } j=zbZ m j from rfl,hw]
   rfl
  ·rw [e]
   have hw:zbZ m i=true:=by rw [zc3 h i,hb]; simp
   unfold zeY
   rw [show zbZ { m with store:=s,server:={ m.server with plan:=rest } } i=zbZ m i from rfl,hw]
   rw [hp] at w5 ⊢
   rw [show zbD ({ m with store:=s,server:={ m.server with plan:=rest } }:Mc).clients i=zbD m.clients i from rfl,zb8 hc]
   generalize (l.getD i []).length=L at *
   simp [zjU] at w5 ⊢
   omega
 ·obtain ⟨hi,-,-,-,w5⟩:=h.work i hb
  have hlt:c.got.length < (l.getD i []).length:=by
   cases (h.clients i c hc).phase with
   | rest _ y=>exact absurd hb y
   | wait _ y=>exact absurd hb y
   | work _ _ _ _ _ g=>exact g
   | hear _ y=>exact absurd hb y
   | lost _ y=>exact absurd hb y
  refine .inr (zfK (i:=i) (fun j _ hj=>?_) hi ?_)
  ·rw [e]
   have hw:zbZ m j=false:=by rw [zc3 h j,hb]; simpa using fun x=>hj x.symm
   unfold zeY
   rw [hw,show zbZ { m with store:=s,server:=zbK m.server.gen m.server.box,clients:=m.clients.set i { c with box:=[b] } } j=false from rfl]
   rw [show zbD ({ m with store:=s,server:=zbK m.server.gen m.server.box,clients:=m.clients.set i { c with box:=[b] } }:Mc).clients j=zbD m.clients j from zfS hj]
   rw [show ziZ { m with store:=s,server:=zbK m.server.gen m.server.box,clients:=m.clients.set i { c with box:=[b] } } j=ziZ m j by unfold ziZ; simp only []; rw [zeO hj]]
   rfl
  ·rw [e]
   have hw:zbZ m i=true:=by rw [zc3 h i,hb]; simp
   unfold zeY
   rw [hw,show zbZ { m with store:=s,server:=zbK m.server.gen m.server.box,clients:=m.clients.set i { c with box:=[b] } } i=false from rfl]
   rw [show zc4 { m with store:=s,server:=zbK m.server.gen m.server.box,clients:=m.clients.set i { c with box:=[b] } } i=zc4 m i from rfl,zdy hl h i,decide_eq_false hk]
   rw [zkh (m:={ m with store:=s,server:=zbK m.server.gen m.server.box,clients:=m.clients.set i { c with box:=[b] } }) (zgf hc)]
   rw [show zbD ({ m with store:=s,server:=zbK m.server.gen m.server.box,clients:=m.clients.set i { c with box:=[b] } }:Mc).clients i=c.got.length by rw [zb8 (zgf hc)],zb8 hc,hp]
   generalize (l.getD i []).length=L at *
   simp [zjU]
   omega
 ·have hk:k < l.length:=h.ksl k (by rw [hks]; simp)
  have hlt:c.got.length < (l.getD k []).length:=by
   have hin:k ∈ ks:=by rw [hks]; simp
   cases (h.clients k c hc).phase with
   | rest y=>exact absurd hin y
   | wait _ _ _ _ _ g=>exact g
   | work y=>exact absurd hin y
   | hear y=>exact absurd hin y
   | lost y=>exact absurd hin y
  have hnd:=h.nodup
  rw [hks] at hnd
  have hnk:=(List.nodup_cons.1 hnd).1
  have hk3':∀ x ∈ ks',x < 3:=fun x hx=>hk3 x (by rw [hks]; simp [hx])
  have hbusy:m.server.busy=false:=by have:=h.busy; rw [hb] at this; exact this
  refine .inr (zfK (i:=k) (fun j _ hj=>?_) hk ?_)
  ·rw [e]
   unfold zeY
   rw [show zbZ { m with server:={ m.server with box:=ks'.map (fun k=>zbA (zbi l k (zbD m.clients k))) },clients:=m.clients.set k { c with box:=[b] } } j=zbZ m j from rfl]
   rw [show zbD ({ m with server:={ m.server with box:=ks'.map (fun k=>zbA (zbi l k (zbD m.clients k))) },clients:=m.clients.set k { c with box:=[b] } }:Mc).clients j=zbD m.clients j from zfS hj]
   rw [show ziZ { m with server:={ m.server with box:=ks'.map (fun k=>zbA (zbi l k (zbD m.clients k))) },clients:=m.clients.set k { c with box:=[b] } } j=ziZ m j by unfold ziZ; simp only []; rw [zeO hj]]
   rw [show zc4 { m with server:={ m.server with box:=ks'.map (fun k=>zbA (zbi l k (zbD m.clients k))) },clients:=m.clients.set k { c with box:=[b] } } j=zc4 m j by
    rw [zdy hl h j,hks]
    unfold zc4
    simp only []
    rw [zjh hk3']
    simp [hj]]
  ·rw [e]
   have hw:zbZ m k=false:=by rw [zc3 h k,hb]; simp
   unfold zeY
   rw [show zbZ { m with server:={ m.server with box:=ks'.map (fun k=>zbA (zbi l k (zbD m.clients k))) },clients:=m.clients.set k { c with box:=[b] } } k=zbZ m k from rfl,hw,zdy hl h k]
   rw [show zc4 { m with server:={ m.server with box:=ks'.map (fun k=>zbA (zbi l k (zbD m.clients k))) },clients:=m.clients.set k { c with box:=[b] } } k=false by
    unfold zc4
    simp only []
    rw [zjh hk3']
    simp [hnk]]
   rw [zkh (m:={ m with server:={ m.server with box:=ks'.map (fun k=>zbA (zbi l k (zbD m.clients k))) },clients:=m.clients.set k { c with box:=[b] } }) (zgf hc)]
   rw [show zbD ({ m with server:={ m.server with box:=ks'.map (fun k=>zbA (zbi l k (zbD m.clients k))) },clients:=m.clients.set k { c with box:=[b] } }:Mc).clients k=c.got.length by rw [zb8 (zgf hc)],zb8 hc,hks]
   generalize (l.getD k []).length=L at *
   simp [zjU]
   omega
 ·have hk:k < l.length:=h.ksl k (by rw [hks]; simp)
  obtain ⟨c,hc⟩:∃ c,m.clients[k]?=some c:=⟨_,List.getElem?_eq_getElem (by rw [h.nc]; exact hk)⟩
  have hlt:c.got.length < (l.getD k []).length:=by
   have hin:k ∈ ks:=by rw [hks]; simp
   cases (h.clients k c hc).phase with
   | rest y=>exact absurd hin y
   | wait _ _ _ _ _ g=>exact g
   | work y=>exact absurd hin y
   | hear y=>exact absurd hin y
   | lost y=>exact absurd hin y
  have hk3':∀ x ∈ ks',x < 3:=fun x hx=>hk3 x (by rw [hks]; simp [hx])
  refine .inr (zfK (i:=k) (fun j _ hj=>?_) hk ?_)
  ·rw [e]
   have hw:zbZ m j=false:=by rw [zc3 h j,hb]; simp
   unfold zeY
   rw [hw,show zbZ { m with server:={ m.server with box:=ks'.map (fun k=>zbA (zbi l k (zbD m.clients k))),busy:=true,now:=r,plan:=p,says:=s } } j=false by
    unfold zbZ
    simp only []
    rw [hr]
    simp
    omega]
   rw [show zc4 { m with server:={ m.server with box:=ks'.map (fun k=>zbA (zbi l k (zbD m.clients k))),busy:=true,now:=r,plan:=p,says:=s } } j=zc4 m j by
    rw [zdy hl h j,hks]
    unfold zc4
    simp only []
    rw [zjh hk3']
    simp [hj]]
   rfl
  ·rw [e]
   have hw:zbZ m k=false:=by rw [zc3 h k,hb]; simp
   unfold zeY
   rw [hw,zdy hl h k,show zbZ { m with server:={ m.server with box:=ks'.map (fun k=>zbA (zbi l k (zbD m.clients k))),busy:=true,now:=r,plan:=p,says:=s } } k=true by
    unfold zbZ
    simp only []
    rw [hr]
    simp]
   rw [show zbD ({ m with server:={ m.server with box:=ks'.map (fun k=>zbA (zbi l k (zbD m.clients k))),busy:=true,now:=r,plan:=p,says:=s } }:Mc).clients k=zbD m.clients k from rfl,zb8 hc,hks]
   generalize (l.getD k []).length=L at *
   simp [zjU]
   omega
end
open Go Go.RowKit

section
variable {l:List (List Cl)} {m:Mc} {ks:List Nat} {bz:Option Nat}

theorem zqg (h:MInv l m ks bz):zh4 l (za6 m)=zh4 l m:=by
 unfold za6
 by_cases hu:m.up=true
 ·rw [if_pos hu]
 rw [if_neg hu]
 obtain ⟨rfl,rfl,-,-⟩:=h.down (by simpa using hu)
 by_cases hp:1 < m.pause
 ·rw [if_pos hp]; rfl
 rw [if_neg hp]
 have hs:=h.idle rfl
 have hb:m.server.box=[]:=h.box
 rw [hb] at hs
 refine zqX fun i _=>?_
 unfold zeY zbZ zc4 ziZ
 rw [hs]
 rfl

theorem zpm (n:Int) (m:Mc):(doM m 1 n).1.up=m.up/\(doM m 1 n).1.pause=m.pause/\(doM m 1 n).1.falls=m.falls/\(doM m 1 n).1.clients.length=m.clients.length:=by
 unfold doM
 rw [if_pos rfl]
 split
 ·exact ⟨rfl,rfl,rfl,rfl⟩
 ·simp only []
  split
  ·exact ⟨rfl,rfl,rfl,rfl⟩
  ·split
   ·split
    ·exact ⟨rfl,rfl,rfl,rfl⟩
    ·exact ⟨rfl,rfl,rfl,by simp⟩
   ·exact ⟨rfl,rfl,rfl,by simp⟩
theorem zpu (n:Int) (m:Mc):(doM m 2 n).1.up=m.up/\(doM m 2 n).1.pause=m.pause/\(doM m 2 n).1.falls=m.falls/\(doM m 2 n).1.clients.length=m.clients.length:=by
 unfold doM
 rw [if_neg (by decide),if_pos rfl]
 split
 ·exact ⟨rfl,rfl,rfl,rfl⟩
 ·simp only []
  split
  ·exact ⟨rfl,rfl,rfl,rfl⟩
  ·split
   ·split
    ·exact ⟨rfl,rfl,rfl,by simp⟩
    ·exact ⟨rfl,rfl,rfl,rfl⟩
   ·exact ⟨rfl,rfl,rfl,rfl⟩

def zrL (l:List (List Cl)) (m:Mc) (ks:List Nat) (bz:Option Nat) (i:Nat):Prop :=
 ∀ c,m.clients[i]?=some c->c.box=[]/\(l.getD i []).length<=c.got.length∨i ∈ ks∨bz=some i∨m.up=false

def zdh (is:List Nat) (m:Mc):Mc:=is.foldl (fun m (n:Nat)=>(doM m 1 (n:Int)).1) m

theorem ziL (hl:za8 l) (is:List Nat) (his:∀ i ∈ is,i < l.length):∀ {m:Mc} {ks:List Nat} {bz:Option Nat},MInv l m ks bz ->
  (∃ ks' bz',MInv l (zdh is m) ks' bz')/\(zdh is m).up=m.up/\(zdh is m).pause=m.pause/\(zdh is m).clients.length=m.clients.length /\
  ((zdh is m=m/\∀ i ∈ is,zrL l m ks bz i)∨zh4 l (zdh is m) < zh4 l m):=by
 induction is with
 | nil=>intro m ks bz h; exact ⟨⟨ks,bz,h⟩,rfl,rfl,rfl,.inl ⟨rfl,fun i hi=>by cases hi⟩⟩
 | cons i is ih =>
  intro m ks bz h
  have hi:i < l.length:=his i (by simp)
  obtain ⟨c,hc⟩:∃ c,m.clients[i]?=some c:=⟨_,List.getElem?_eq_getElem (by rw [h.nc]; exact hi)⟩
  obtain ⟨ks1,bz1,h1⟩:=zkg hl h (i:Int)
  have hup:=zpm (i:Int) m
  have hstep:zdh (i::is) m=zdh is (doM m 1 (i:Int)).1:=rfl
  have his':∀ j ∈ is,j < l.length:=fun j hj=>his j (by simp [hj])
  rcases zol hl h hc with ⟨e,hbl⟩ | hlt
  ·rw [hstep,e]
   obtain ⟨a1,a2,a3,a4,a5⟩:=ih his' h
   refine ⟨a1,a2,a3,a4,?_⟩
   rcases a5 with ⟨b1,b2⟩ | b
   ·refine .inl ⟨b1,fun j hj=>?_⟩
    rcases List.mem_cons.1 hj with rfl | hj
    ·intro d hd
     obtain rfl:c=d:=by rw [hc] at hd; exact Option.some.inj hd
     exact hbl
    ·exact b2 j hj
   ·exact .inr b
  ·rw [hstep]
   obtain ⟨a1,a2,a3,a4,a5⟩:=ih his' h1
   refine ⟨a1,by rw [a2,hup.1],by rw [a3,hup.2.1],by rw [a4,hup.2.2.2],.inr ?_⟩
   rcases a5 with ⟨b1,_⟩ | b
   ·rw [b1]; exact hlt
   ·omega

def zdO (m:Mc):Bool:=m.clients.all fun c=>decide ((c.calls.length:Int)<=c.at_)
def zo8 (l:List (List Cl)) (m:Mc):Nat:=zh4 l m+m.pause.toNat

theorem zpY (hl:za8 l) (h:MInv l m ks bz):∃ ks' bz',MInv l (roundM m) ks' bz':=by
 obtain ⟨ks1,bz1,h1⟩:=zfC h
 obtain ⟨⟨ks2,bz2,h2⟩,-,-,-,-⟩:=ziL hl (List.range (za6 m).clients.length) (fun i hi=>by rw [List.mem_range,h1.nc] at hi; exact hi) h1
 exact zkr hl h2 0

theorem zk2 (hl:za8 l) (h:MInv l m ks bz) (hn:zdO m=false):zo8 l (roundM m) < zo8 l m:=by
 obtain ⟨ks1,bz1,h1⟩:=zfC h
 have hphi:=zqg h
 obtain ⟨⟨ks2,bz2,h2⟩,u2,p2,n2,r2⟩:=ziL hl (List.range (za6 m).clients.length) (fun i hi=>by rw [List.mem_range,h1.nc] at hi; exact hi) h1
 have hr:roundM m=(doM (zdh (List.range (za6 m).clients.length) (za6 m)) 2 0).1:=rfl
 have hs:=zn0 hl h2 0
 have hsu:=zpu 0 (zdh (List.range (za6 m).clients.length) (za6 m))
 have hle:zh4 l (zdh (List.range (za6 m).clients.length) (za6 m))<=zh4 l m:=by
  rcases r2 with ⟨e,_⟩ | hlt
  ·rw [e,hphi]; exact Nat.le_refl _
  ·omega
 have hle2:zh4 l (roundM m)<=zh4 l (zdh (List.range (za6 m).clients.length) (za6 m)):=by
  rw [hr]
  rcases hs with ⟨e,_⟩ | hlt
  ·rw [e]; exact Nat.le_refl _
  ·omega
 have hpz:(roundM m).pause=(za6 m).pause:=by rw [hr,hsu.2.1,p2]
 unfold zo8
 rw [hpz]
 by_cases hu:m.up=true
 ·have ht:za6 m=m:=by unfold za6; rw [if_pos hu]
  have hp0:=h.upp hu
  rw [ht] at r2 hpz hr hs ⊢
  rw [ht] at h2 hle hle2 h1
  rcases r2 with ⟨e,hbl⟩ | hlt
  ·rw [e] at hs hr
   rcases hs with ⟨_,hx⟩ | hlt
   ·exfalso
    rcases hx with hx | ⟨rfl,rfl⟩
    ·rw [hu] at hx; cases hx
    ·-- nothing is in the server's hands: all are idle
     rw [e] at h2
     have hid:zdO m=true:=by
      unfold zdO
      rw [List.all_eq_true]
      intro c hc
      obtain ⟨i,hi,rfl⟩:=List.mem_iff_getElem.1 hc
      have hci:=List.getElem?_eq_getElem hi
      have ci:=h.clients i _ hci
      have hb:=hbl i (by rw [List.mem_range]; exact hi) _ hci
      have key:(l.getD i []).length<=m.clients[i].got.length:=by
       rcases hb with hb | hb | hb | hb
       ·exact hb.2
       ·exfalso
        have a1:=zdy hl h1 i
        rw [zdy hl h2 i,decide_eq_true hb] at a1
        simp at a1
       ·exfalso
        have a1:=zc3 h1 i
        rw [zc3 h2 i,decide_eq_true hb] at a1
        simp at a1
       ·rw [hu] at hb; cases hb
      rw [decide_eq_true_eq,ci.calls,ci.at_]
      omega
     rw [hid] at hn
     cases hn
   ·rw [hr]; omega
  ·omega
 ·have hd:=h.down (by simpa using hu)
  have hpt:(za6 m).pause.toNat < m.pause.toNat:=by
   unfold za6
   rw [if_neg hu]
   by_cases hp:1 < m.pause
   ·rw [if_pos hp]; show (m.pause - 1).toNat < _; omega
   ·rw [if_neg hp]; show (0:Int).toNat < _; omega
  omega

def zbg:Nat->Mc->Mc×Nat
 | 0,m=>(m,0)
 | n+1,m=>if zdO m then (m,0) else ((zbg n (roundM m)).1,(zbg n (roundM m)).2+1)
theorem ziM (hl:za8 l):∀ (n:Nat) {m:Mc} {ks:List Nat} {bz:Option Nat},MInv l m ks bz->zo8 l m<=n->zdO (zbg n m).1=true/\(zbg n m).2<=n/\∃ ks' bz',MInv l (zbg n m).1 ks' bz'
 | 0,m,ks,bz,h,hp=>by
  refine ⟨?_,Nat.le_refl _,ks,bz,h⟩
  show zdO m=true
  cases hi:zdO m with
  | true=>rfl
  | false=>have:=zk2 hl h hi; omega
 | n+1,m,ks,bz,h,hp=>by
  unfold zbg
  cases hi:zdO m with
  | true=>exact ⟨hi,Nat.zero_le _,ks,bz,h⟩
  | false =>
   have hlt:=zk2 hl h hi
   obtain ⟨ks1,bz1,h1⟩:=zpY hl h
   obtain ⟨a,b,c⟩:=ziM hl n h1 (by omega)
   refine ⟨a,?_,c⟩
   show (zbg n (roundM m)).2+1<=n+1
   omega
theorem zqo (hl:za8 l) (h:MInv l m ks bz):zo8 l m<=195:=by
 have h3:=hl.1
 have hp:m.pause.toNat<=3:=by
  by_cases hu:m.up=true
  ·rw [h.upp hu]; decide
  ·have:=h.down (by simpa using hu); omega
 have hs:zh4 l m<=l.length * 64:=zkq fun i hi=>by
  have h8:=(hl.2 _ (zgX (d:=[]) hi)).1
  unfold zeY
  omega
 have:l.length * 64<=192:=by omega
 unfold zo8
 omega
theorem zml (hl:za8 l) (h:MInv l m ks bz):zdO (zbg 300 m).1=true/\(zbg 300 m).2<=300/\∃ ks' bz',MInv l (zbg 300 m).1 ks' bz' :=
 ziM hl 300 h (by have:=zqo hl h; omega)
theorem zm2 (h:MInv l m ks bz) (hi:zdO m=true) {i:Nat} {c:Cn} (hc:m.clients[i]?=some c):c.got.length=(l.getD i []).length/\(zcd m.store.past i).length=(l.getD i []).length/\c.got=zcI m.store.past i:=by
 have ci:=h.clients i c hc
 have hm:c ∈ m.clients:=List.mem_of_getElem? hc
 unfold zdO at hi
 rw [List.all_eq_true] at hi
 have:=hi c hm
 rw [decide_eq_true_eq,ci.calls,ci.at_] at this
 have h1:=ci.most
 have h2:=ci.step
 have h3:=zfF m.store.past i
 refine ⟨by omega,by omega,?_⟩
 have hg:=ci.got
 rwa [List.take_of_length_le (by omega)] at hg
end
open Go Go.RowKit

theorem zpK (r:Rq) (b:List Rq) (i:Nat):zcd (r::b) i=if r.client=(i:Int) then r::zcd b i else zcd b i:=by
 unfold zcd
 rw [List.filter_cons]
 by_cases h:r.client=(i:Int)
 ·simp [h]
 ·simp [h]

section
variable {l:List (List Cl)} {m:Mc} {ks:List Nat} {bz:Option Nat}

end

/-! What was done stays. -/

structure Grow (m m':Mc):Prop where
 past:∃ s,m'.store.past=m.store.past++s
 len:m'.clients.length=m.clients.length
 got:∀ (i:Nat) (c:Cn),m.clients[i]?=some c->∃ (c':Cn) (t:List Rp),m'.clients[i]?=some c'/\c'.got=c.got++t

theorem Grow.refl (m:Mc):Grow m m:=⟨⟨[],by simp⟩,rfl,fun i c h=>⟨c,[],h,by simp⟩⟩
theorem Grow.trans {a b c:Mc} (h:Grow a b) (k:Grow b c):Grow a c:=by
 refine ⟨?_,k.len.trans h.len,fun i x hx=>?_⟩
 ·obtain ⟨s,hs⟩:=h.past
  obtain ⟨t,ht⟩:=k.past
  exact ⟨s++t,by rw [ht,hs,List.append_assoc]⟩
 ·obtain ⟨y,t,hy,e⟩:=h.got i x hx
  obtain ⟨z,u,hz,f⟩:=k.got i y hy
  exact ⟨z,t++u,hz,by rw [f,e,List.append_assoc]⟩

theorem zkj {m:Mc} {st:St} {sv:Sv} {k:Nat} {x y:Cn} (hs:∃ s,st.past=m.store.past++s) (hk:m.clients.getD k (zbO [])=x) (hy:∃ t,y.got=x.got++t) :
  Grow m { m with store:=st,server:=sv,clients:=m.clients.set k y }:=by
 refine ⟨hs,by simp,fun i c hc=>?_⟩
 by_cases hik:k=i
 ·subst hik
  have e:c=x:=by rw [<- hk,List.getD_eq_getElem?_getD,hc]; rfl
  subst e
  obtain ⟨t,ht⟩:=hy
  exact ⟨y,t,List.getElem?_set_self (List.getElem?_eq_some_iff.1 hc).1,ht⟩
 ·exact ⟨c,[],by rw [List.getElem?_set_ne hik]; exact hc,by simp⟩

theorem zoW (c:Cn) (me gen:Int) (up:Bool):∃ t,(zcy c me gen up).1.got=c.got++t:=by
 unfold zcy
 cases hb:c.box with
 | nil =>
  simp only []
  repeat' split
  all_goals exact ⟨[],by simp⟩
 | cons b r =>
  simp only []
  split
  ·exact ⟨_,rfl⟩
  ·exact ⟨[],by simp⟩
theorem znM (s:St) (v:Sv):(zaz s v).1.past=s.past∨∃ r,(zaz s v).1.past=s.past++[r]:=by
 unfold zaz
 by_cases hb:v.busy=true
 ·rw [if_pos hb]
  cases v.plan with
  | nil=>exact .inr ⟨_,rfl⟩
  | cons q rest =>
   left
   show (zau s q).past=s.past
   unfold zau
   split <;> rfl
 ·rw [if_neg hb]
  left
  cases v.box with
  | nil=>rfl
  | cons b r =>
   simp only []
   repeat' split
   all_goals rfl
theorem zqD (c:Cn) (b:List UInt8):(zcg c b).got=c.got:=by
 unfold zcg
 split <;> rfl

theorem zr4 (m:Mc) (kind n:Int):Grow m (doM m kind n).1:=by
 unfold doM
 simp only []
 by_cases h1:kind=1
 ·rw [if_pos h1]
  by_cases h2:n < 0∨(m.clients.length:Int)<=n
  ·rw [if_pos h2]; exact Grow.refl m
  rw [if_neg h2]
  by_cases h3:(zcy (m.clients.getD n.toNat (zbO [])) n m.server.gen m.up).2.2≠0
  ·rw [if_pos h3]; exact Grow.refl m
  rw [if_neg h3]
  by_cases h4:(zcy (m.clients.getD n.toNat (zbO [])) n m.server.gen m.up).2.1≠[]
  ·rw [if_pos h4]
   by_cases h5:(zbY m.server (zcy (m.clients.getD n.toNat (zbO [])) n m.server.gen m.up).2.1).2≠0
   ·rw [if_pos h5]; exact Grow.refl m
   rw [if_neg h5]
   exact zkj (st:=m.store) ⟨[],by simp⟩ rfl (zoW _ _ _ _)
  ·rw [if_neg h4]
   exact zkj (st:=m.store) (sv:=m.server) ⟨[],by simp⟩ rfl (zoW _ _ _ _)
 rw [if_neg h1]
 by_cases h2:kind=2
 ·rw [if_pos h2]
  by_cases h3:¬ m.up=true
  ·rw [if_pos h3]; exact Grow.refl m
  rw [if_neg h3]
  by_cases h4:(zaz m.store m.server).2.2.2≠0
  ·rw [if_pos h4]; exact Grow.refl m
  rw [if_neg h4]
  have hp:∃ s,(zaz m.store m.server).1.past=m.store.past++s:=by
   rcases znM m.store m.server with h | ⟨r,h⟩
   ·exact ⟨[],by rw [h]; simp⟩
   ·exact ⟨_,h⟩
  by_cases h5:(zaz m.store m.server).2.2.1≠[]
  ·rw [if_pos h5]
   by_cases h6:((zaz m.store m.server).2.2.1.getD 1 0).toNat < m.clients.length
   ·rw [if_pos h6]
    exact zkj hp rfl ⟨[],by rw [zqD]; simp⟩
   ·rw [if_neg h6]
    exact ⟨hp,rfl,fun i c h=>⟨c,[],h,by simp⟩⟩
  ·rw [if_neg h5]
   exact ⟨hp,rfl,fun i c h=>⟨c,[],h,by simp⟩⟩
 rw [if_neg h2]
 by_cases h3:kind=3
 ·rw [if_pos h3]
  unfold zdZ
  repeat' split
  all_goals exact ⟨⟨[],by simp⟩,rfl,fun i c h=>⟨c,[],h,by simp⟩⟩
 rw [if_neg h3]
 by_cases h4:kind=4
 ·rw [if_pos h4]
  show Grow m (za6 m)
  unfold za6
  repeat' split
  all_goals exact ⟨⟨[],by simp [zbF]⟩,rfl,fun i c h=>⟨c,[],h,by simp⟩⟩
 rw [if_neg h4]
 exact Grow.refl m

/-! A machine is whole. -/

/-! Alone it is as one by one. -/

theorem zog {calls:List Cl} {m:Mc} {ks:List Nat} {bz:Option Nat} (h:MInv [calls] m ks bz):zcd m.store.past 0=m.store.past:=by
 unfold zcd
 rw [List.filter_eq_self]
 intro r hr
 obtain ⟨i,t,hi,-,rfl⟩:=h.past r hr
 have:i=0:=by simpa using hi
 subst this
 simp [zbi]

theorem zoj {calls:List Cl} {m:Mc} {ks:List Nat} {bz:Option Nat} (h:MInv [calls] m ks bz):zcI m.store.past 0=(zef (m.store.past.map Rq.call)).2.map fun x=>⟨x.1,x.2⟩:=by
 unfold zcI
 have hall:∀ x ∈ m.store.past.zip (zef (m.store.past.map Rq.call)).2,decide (x.1.client=((0:Nat):Int))=true:=fun x hx=>by
  have hm:=(List.of_mem_zip hx).1
  obtain ⟨i,t,hi,-,e⟩:=h.past x.1 hm
  have:i=0:=by simpa using hi
  subst this
  rw [e]
  simp [zbi]
 rw [List.filter_eq_self.2 hall]
 have hlen:(zef (m.store.past.map Rq.call)).2.length=m.store.past.length:=by rw [zlz]; simp
 generalize (zef (m.store.past.map Rq.call)).2=q at *
 clear hall h
 generalize m.store.past=p at *
 induction p generalizing q with
 | nil=>cases q with
  | nil=>rfl
  | cons _ _=>cases hlen
 | cons r p ih=>cases q with
  | nil=>cases hlen
  | cons x q =>
   simp only [List.zip_cons_cons,List.map_cons]
   rw [ih q (by simpa using hlen)]

theorem zsf {calls:List Cl} {m:Mc} {ks:List Nat} {bz:Option Nat} (h:MInv [calls] m ks bz) (hi:zdO m=true) :
  m.clients.length=1/\∀ c,m.clients[0]?=some c->c.got=(zef calls).2.map (fun x=>⟨x.1,x.2⟩)/\zbR (zaD m.store.cells m.store.undo)=(zef calls).1:=by
 refine ⟨h.nc,fun c hc=>?_⟩
 obtain ⟨-,h2,h3⟩:=zm2 h hi hc
 have ci:=h.clients 0 c hc
 have hp:m.store.past.map Rq.call=calls:=by
  rw [<- zog h,ci.done,h2]
  refine List.ext_getElem (by simp) fun k k1 k2=>?_
  simp [zbi,k2]
 refine ⟨by rw [h3,zoj h,hp],by rw [h.nm]; unfold zea; rw [hp]⟩

open Go Go.RowKit

theorem sumTo_pick (g:Nat->Nat) (k c:Nat):∀ n,zdo (fun i=>g i+if k=i then c else 0) n=zdo g n+if k < n then c else 0
 | 0=>by simp [zdo]
 | n+1=>by
  unfold zdo
  rw [sumTo_pick g k c n]
  by_cases h1:k < n
  ·rw [if_pos h1,if_neg (by omega),if_pos (by omega)]; omega
  ·rw [if_neg h1]
   by_cases h2:k=n
   ·rw [if_pos h2,if_pos (by omega)]; omega
   ·rw [if_neg h2,if_neg (by omega)]; omega

theorem zq5 {n:Nat} {p:List Rq} (hp:∀ r ∈ p,∃ i:Nat,i < n/\r.client=(i:Int)) (f:Rq->Bool):zdo (fun i=>(zcd p i).countP f) n=p.countP f:=by
 induction p with
 | nil =>
  have:zdo (fun i=>(zcd [] i).countP f) n=zdo (fun _=>0) n:=rfl
  rw [this]
  clear this hp
  induction n with
  | zero=>rfl
  | succ n ih=>unfold zdo; rw [ih]; rfl
 | cons r p ih =>
  obtain ⟨k,hk,hc⟩:=hp r (by simp)
  have e:(fun i=>(zcd (r::p) i).countP f)=fun i=>(zcd p i).countP f+if k=i then (if f r then 1 else 0) else 0:=by
   funext i
   rw [zpK,hc]
   by_cases hi:k=i
   ·subst hi; rw [if_pos rfl,if_pos rfl,List.countP_cons]
   ·rw [if_neg (by omega),if_neg hi]; rfl
  rw [e,sumTo_pick,if_pos hk,ih (fun x hx=>hp x (by simp [hx])),List.countP_cons]

/-! zdt counts once. -/

/-! Nothing is lost in turning. -/

open Go Go.RowKit

structure SzM (m:Mc):Prop where
 undo:m.store.undo.length+m.server.plan.length<=3
 answers:m.store.answers.length<=m.store.past.length

theorem zsU (l:List (List Cl)):SzM (za1 l):=⟨(by decide:(0:Nat)+0<=3),Nat.le_refl _⟩
theorem zqK {s:St} {v:Sv} (h1:s.undo.length+v.plan.length<=3) (h2:s.answers.length<=s.past.length) (hc:v.busy=false->s.undo=[]) :
  (zaz s v).1.undo.length+(zaz s v).2.1.plan.length<=3/\(zaz s v).1.answers.length<=(zaz s v).1.past.length:=by
 unfold zaz
 split
 ·split
  ·rename_i p l hp
   obtain ⟨w1,w2,w3⟩:=zjW s p
   rw [hp] at h1
   simp only [List.length_cons] at h1
   exact ⟨by simp only []; omega,by simp only [w2,w3]; exact h2⟩
  ·have:=zim s.answers ⟨v.now.client,v.now.token,v.says⟩
   refine ⟨by simp [zb2,zbK],?_⟩
   simp only [zb2,List.length_append,List.length_cons,List.length_nil]
   omega
 ·rename_i hb
  have hu:=hc (by simpa using hb)
  split
  ·exact ⟨h1,h2⟩
  ·dsimp only
   have hp:∀ c,s.undo.length+(zbq (zbR s.cells) c).length<=3:=fun c=>by
    rw [hu]
    simpa using zjo (zbR s.cells) c
   repeat' split
   all_goals first | exact ⟨h1,h2⟩ | exact ⟨hp _,h2⟩
theorem zpM (v:Sv) (b:List UInt8):(zbY v b).1.plan=v.plan:=by
 unfold zbY
 split <;> rfl
theorem zoQ {m:Mc} (hs:SzM m):SzM (za6 m):=by
 unfold za6
 split
 ·exact hs
 ·split
  ·exact ⟨hs.undo,hs.answers⟩
  ·exact ⟨(by decide:(0:Nat)+0<=3),hs.answers⟩
theorem zsh {l:List (List Cl)} {m:Mc} {ks:List Nat} {bz:Option Nat} (h:MInv l m ks bz) (hs:SzM m) (kind n:Int):SzM (doM m kind n).1:=by
 unfold doM
 split
 ·split
  ·exact hs
  ·dsimp only
   split
   ·exact hs
   ·split
    ·split
     ·exact hs
     ·exact ⟨by simp only [zpM]; exact hs.undo,hs.answers⟩
    ·exact ⟨hs.undo,hs.answers⟩
 ·split
  ·split
   ·exact hs
   ·rename_i hu
    dsimp only
    have hu:m.up=true:=by simpa using hu
    obtain ⟨z1,z2⟩:=zqK hs.undo hs.answers fun hb=>h.clean hu (by
     have hz:=h.busy
     rw [hb] at hz
     cases bz with
     | none=>rfl
     | some i=>cases hz)
    repeat' split
    all_goals first | exact hs | exact ⟨z1,z2⟩
  ·split
   ·unfold zdZ
    split
    ·exact hs
    ·split
     ·exact hs
     ·exact ⟨Nat.le_trans (Nat.add_le_add_left (Nat.zero_le _) _) hs.undo,hs.answers⟩
   ·split
    ·exact zoQ hs
    ·exact hs
theorem zoU {l:List (List Cl)} (hl:za8 l):∀ (steps:List (Int×Int)) {m:Mc} {ks:List Nat} {bz:Option Nat},MInv l m ks bz->SzM m->SzM (zcu m steps)
 | [],_,_,_,_,hs=>hs
 | p::q,m,ks,bz,h,hs=>by
  obtain ⟨ks1,bz1,h1⟩:=zj7 hl h p.1 p.2
  exact zoU hl q h1 (zsh h hs p.1 p.2)
theorem zsp {l:List (List Cl)} (hl:za8 l) (steps:List (Int×Int)):SzM (zcu (za1 l) steps):=by
 obtain ⟨ks,bz,h⟩:=zjj hl []
 exact zoU hl steps (m:=za1 l) h (zsU l)

theorem zqq {l:List (List Cl)} (hl:za8 l) {m:Mc} {ks:List Nat} {bz:Option Nat} (h:MInv l m ks bz) (hs:SzM m):SizeM m 24:=by
 have hp:m.store.past.length<=24:=by
  have h1:=zq5 (n:=l.length) (p:=m.store.past) (fun r hr=>by
   obtain ⟨i,t,hi,_,rfl⟩:=h.past r hr
   exact ⟨i,hi,rfl⟩) (fun _=>true)
  rw [List.countP_true] at h1
  have h2:zdo (fun i=>(zcd m.store.past i).length) l.length<=l.length * 8:=zkq fun i hi=>by
   obtain ⟨c,hc⟩:∃ c,m.clients[i]?=some c:=⟨m.clients[i]'(by rw [h.nc]; exact hi),List.getElem?_eq_getElem _⟩
   have h3:=(h.clients i c hc).most
   have h4:(l.getD i []).length<=8:=by
    rw [List.getD_eq_getElem?_getD,List.getElem?_eq_getElem hi]
    exact (hl.2 _ (List.getElem_mem hi)).1
   omega
  have h5:=hl.1
  have h6:m.store.past.length<=l.length * 8:=by
   rw [<- h1]
   exact h2
  omega
 refine ⟨?_,?_,hp,?_,fun c hc=>?_⟩
 ·have:=hs.undo; omega
 ·have:=hs.answers; omega
 ·rw [h.box,List.length_map]
  have:=zig h.nodup h.ksl
  have:=hl.1
  omega
 ·obtain ⟨i,hi⟩:=List.mem_iff_getElem?.1 hc
  have ci:=h.clients i c hi
  have h3:=ci.most
  have h4:(l.getD i []).length<=8:=by
   rw [List.getD_eq_getElem?_getD]
   cases e:l[i]? with
   | none=>exact Nat.zero_le _
   | some y=>exact (hl.2 y (List.mem_of_getElem? e)).1
  have h5:=ci.step
  refine ⟨by omega,?_⟩
  cases ci.phase with
  | rest _ _ _ e _=>rw [e]; exact Nat.zero_le _
  | wait _ _ _ _ e _=>rw [e]; exact Nat.zero_le _
  | work _ _ _ _ e _ _=>rw [e]; exact Nat.zero_le _
  | lost _ _ _ e _ _=>rw [e]; exact Nat.zero_le _
  | hear _ _ _ _ e=>rw [e]; exact (by decide:(1:Nat)<=24)

structure GzM (l:List (List Cl)) (m:Mc):Prop where
 right:za8 l
 inv:∃ ks bz,MInv l m ks bz
 sz:SzM m
theorem GzM.size {l:List (List Cl)} {m:Mc} (h:GzM l m):SizeM m 24:=by
 obtain ⟨h1,⟨ks,bz,h2⟩,h3⟩:=h
 exact zqq h1 h2 h3
theorem zrh {l:List (List Cl)} {m:Mc} (h:GzM l m) (kind n:Int):GzM l (doM m kind n).1:=by
 obtain ⟨h1,⟨ks,bz,h2⟩,h3⟩:=h
 exact ⟨h1,zj7 h1 h2 kind n,zsh h2 h3 kind n⟩
theorem zrQ {l:List (List Cl)} {m:Mc} (h:GzM l m):GzM l (za6 m):=by
 obtain ⟨h1,⟨ks,bz,h2⟩,h3⟩:=h
 exact ⟨h1,⟨_,_,(zfC h2).choose_spec.choose_spec⟩,zoQ h3⟩
theorem zjc {l:List (List Cl)} (hl:za8 l) (steps:List (Int×Int)):GzM l (zcu (za1 l) steps):=⟨hl,zjj hl steps,zsp hl steps⟩
theorem zoN {l:List (List Cl)}:∀ (q:List Nat) {m:Mc},GzM l m->GzM l (q.foldl (fun m (n:Nat)=>(doM m 1 (n:Int)).1) m)
 | [],_,h=>h
 | n::q,_,h=>zoN q (zrh h 1 (n:Int))
theorem zjN {l:List (List Cl)} {m:Mc} (h:GzM l m):GzM l (roundM m):=zrh (zoN _ (zrQ h)) 2 0
theorem zk7 {l:List (List Cl)}:∀ (n:Nat) {m:Mc},GzM l m->GzM l (zbg n m).1
 | 0,_,h=>h
 | n+1,_,h=>by
  unfold zbg
  split
  ·exact h
  ·exact zk7 n (zjN h)

open Go Go.RowKit

theorem zqU {i t:Nat} {r:Rp} (hi:i < 3) (ht:t < 8) (h:zrO r):zbz ⟨i,t,r⟩=0:=by
 obtain ⟨h1,h2,h3,h4,h5⟩:=h
 unfold zbz
 rw [if_neg]
 simp only []
 omega
theorem znX {l:List (List Cl)} (hl:za8 l) {m:Mc} {ks:List Nat} {bz:Option Nat} (h:MInv l m ks bz) :
  (zaz m.store m.server).2.2.1=[]∨∃ (i:Nat) (t:Int) (r:Rp),zbz ⟨i,t,r⟩=0/\i < m.clients.length/\(zaz m.store m.server).2.2.1=zb0 ⟨i,t,r⟩:=by
 have h3:=hl.1
 have h8:∀ i,(l.getD i []).length<=8:=fun i=>by
  rw [List.getD_eq_getElem?_getD]
  cases e:l[i]? with
  | none=>simp
  | some x=>exact (hl.2 x (List.mem_of_getElem? e)).1
 cases bz with
 | some i =>
  have hbusy:m.server.busy=true:=h.busy
  obtain ⟨hi,w2,w3,w4,w5⟩:=h.work i rfl
  obtain ⟨c,hc⟩:∃ c,m.clients[i]?=some c:=⟨_,List.getElem?_eq_getElem (by rw [h.nc]; exact hi)⟩
  have ci:=h.clients i c hc
  rw [zb8 hc] at w2
  cases hp:m.server.plan with
  | cons q rest=>rw [zgA hbusy hp]; exact .inl rfl
  | nil =>
   have p5:c.got.length < (l.getD i []).length:=by
    cases ci.phase with
    | rest a b=>exact absurd rfl b
    | wait a b=>exact absurd rfl b
    | work a b d e f g k=>exact g
    | hear a b=>exact absurd rfl b
    | lost a b=>exact absurd rfl b
   have hk:=zeU hl hi p5
   rw [zf5 hbusy hp,w2]
   refine .inr ⟨i,c.got.length,m.server.says,zqU (by omega) (by have:=h8 i; omega) ?_,by rw [h.nc]; exact hi,rfl⟩
   rw [w3,w2]
   exact zoy (zhE hl h.past) hk
 | none =>
  have hbusy:m.server.busy=false:=h.busy
  cases ks with
  | nil=>rw [zhF hbusy (by rw [h.box]; rfl)]; exact .inl rfl
  | cons k ks =>
   have hk:k < l.length:=h.ksl k (by simp)
   obtain ⟨c,hc⟩:∃ c,m.clients[k]?=some c:=⟨_,List.getElem?_eq_getElem (by rw [h.nc]; exact hk)⟩
   have ci:=h.clients k c hc
   have p5:c.got.length < (l.getD k []).length:=by
    cases ci.phase with
    | rest a=>exact absurd (by simp) a
    | wait a b d e f g=>exact g
    | work a=>exact absurd (by simp) a
    | hear a=>exact absurd (by simp) a
    | lost a=>exact absurd (by simp) a
   have hbox:m.server.box=zbA (zbi l k c.got.length)::ks.map (fun k=>zbA (zbi l k (zbD m.clients k))):=by
    rw [h.box,List.map_cons,zb8 hc]
   have hlast:=ci.last
   have htl:=zfF m.store.past k
   have hmost:=ci.most
   have hS:=serve_take (s:=m.store) hbusy hbox (zg7 hl hk p5)
   rw [show (zbi l k c.got.length).client=(k:Int) from rfl,hlast] at hS
   rw [hS]
   by_cases hz:(zcd m.store.past k).length=0
   ·rw [if_pos hz,if_neg (by simp)]
    exact .inl rfl
   ·rw [if_neg hz]
    have h8k:=h8 k
    repeat' split
    ·exact .inr ⟨k,((zcd m.store.past k).length - 1:Nat),_,zit hl h.past hk (by omega) (by omega),by rw [h.nc]; exact hk,rfl⟩
    ·exact .inl rfl
    ·exact .inl rfl
end Go.Mk

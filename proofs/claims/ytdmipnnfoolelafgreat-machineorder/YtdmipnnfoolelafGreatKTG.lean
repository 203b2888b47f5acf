/- Texts of the proof, merged: Math15 Math16 Math17 Math18 Math27 Math28. -/
import Derived.Test.YtdmipnnfoolelafGreatKTF

namespace Go.Mk
open Go Go.RowKit

def zdo (f:Nat->Nat):Nat->Nat
 | 0=>0
 | n+1=>zdo f n+f n
theorem zks {f g:Nat->Nat} {n:Nat} (h:∀ i,i < n->f i<=g i):zdo f n<=zdo g n:=by
 induction n with
 | zero=>exact Nat.le_refl _
 | succ n ih =>
  have:=ih (fun i hi=>h i (by omega))
  have:=h n (by omega)
  simp only [zdo]; omega
theorem zfO {f g:Nat->Nat} {n i:Nat} (h:∀ j,j < n->j≠i->f j=g j) (hi:i < n) (hlt:f i < g i):zdo f n < zdo g n:=by
 induction n with
 | zero=>omega
 | succ n ih =>
  simp only [zdo]
  by_cases e:i=n
  ·subst e
   have:zdo f i<=zdo g i:=zks (fun j hj=>by rw [h j (by omega) (by omega)]; exact Nat.le_refl _)
   omega
  ·have:=ih (fun j hj=>h j (by omega)) (by omega)
   rw [h n (by omega) (fun x=>e x.symm)]
   omega
theorem zqi {f g:Nat->Nat} {n:Nat} (h:∀ i,i < n->f i=g i):zdo f n=zdo g n :=
 Nat.le_antisymm (zks fun i hi=>by rw [h i hi]; exact Nat.le_refl _) (zks fun i hi=>by rw [h i hi]; exact Nat.le_refl _)
theorem zkf {f:Nat->Nat} {n b:Nat} (h:∀ i,i < n->f i<=b):zdo f n<=n * b:=by
 induction n with
 | zero=>simp [zdo]
 | succ n ih =>
  have:=ih (fun i hi=>h i (by omega))
  have:=h n (by omega)
  simp only [zdo,Nat.succ_mul]; omega

def zjx (busyWith:Bool) (plan:Nat) (waits:Bool) (has:Bool):Nat:=if busyWith then 5 - plan else if waits then 1 else if has then 6 else 0
def zbZ (m:Mc) (i:Nat):Bool:=m.server.busy && decide (m.server.now.client=(i:Int))
def zc3 (m:Mc) (i:Nat):Bool:=m.server.box.any fun b=>(b.getD 1 0).toNat == i
def zi0 (m:Mc) (i:Nat):Bool:=!(m.clients.getD i (zbO [])).box.isEmpty
def zeW (l:List (List Cl)) (m:Mc) (i:Nat):Nat:=8 * ((l.getD i []).length - zbD m.clients i) - zjx (zbZ m i) m.server.plan.length (zc3 m i) (zi0 m i)
def zh7 (l:List (List Cl)) (m:Mc):Nat:=zdo (zeW l m) l.length

theorem zlO {l:List (List Cl)} {k t:Nat} (h:k < 3):((zbA (zbi l k t)).getD 1 0).toNat=k:=by
 have h1:((byteOf (k:Int)).toNat:Int)=k:=zcq (by omega) (by omega)
 have h2:((zbA (zbi l k t)).getD 1 0)=byteOf (k:Int):=rfl
 rw [h2]
 omega
theorem zji {l:List (List Cl)} {g:Nat->Nat} {ks:List Nat} (hk:∀ k ∈ ks,k < 3) (i:Nat):((ks.map fun k=>zbA (zbi l k (g k))).any fun b=>(b.getD 1 0).toNat == i)=decide (i ∈ ks):=by
 induction ks with
 | nil=>simp
 | cons k ks ih =>
  rw [List.map_cons,List.any_cons,ih (fun x hx=>hk x (by simp [hx])),zlO (hk k (by simp))]
  by_cases e:k=i
  ·simp [e]
  ·have e2:¬ i=k:=fun x=>e x.symm
   simp [e,e2]

section
variable {l:List (List Cl)} {m:Mc} {ks:List Nat} {bz:Option Nat}

theorem zc4 (h:MInv l m ks bz) (i:Nat):zbZ m i=decide (bz=some i):=by
 unfold zbZ
 cases bz with
 | none =>
  have:m.server.busy=false:=h.busy
  simp [this]
 | some j =>
  have hb:m.server.busy=true:=h.busy
  have hn:=(h.work j rfl).2.1
  have hc:m.server.now.client=(j:Int):=by rw [hn]; rfl
  rw [hb,hc]
  by_cases e:j=i
  ·simp [e]
  ·have:¬ (j:Int)=(i:Int):=by omega
   simp [e,this]
theorem zdE (hl:za8 l) (h:MInv l m ks bz) (i:Nat):zc3 m i=decide (i ∈ ks):=by
 unfold zc3
 rw [h.box]
 exact zji (fun k hk=>by have:=h.ksl k hk; have:=hl.1; omega) i
theorem zj5 {i:Nat} {c:Cn} (hc:m.clients[i]?=some c):zi0 m i=!c.box.isEmpty:=by
 unfold zi0
 rw [List.getD_eq_getElem?_getD,hc]
 rfl

theorem zeQ {cl:List Cn} {i k:Nat} {c:Cn} (h:k≠i):(cl.set i c).getD k (zbO [])=cl.getD k (zbO []):=by
 rw [List.getD_eq_getElem?_getD,List.getD_eq_getElem?_getD,List.getElem?_set_ne (fun e=>h e.symm)]
theorem zf5 {cl:List Cn} {i:Nat} {c d:Cn} (h:cl[i]?=some c):(cl.set i d)[i]?=some d:=List.getElem?_set_self (List.getElem?_eq_some_iff.1 h).1

theorem znD (hl:za8 l) (h:MInv l m ks bz) {i:Nat} {c:Cn} (hc:m.clients[i]?=some c) :
  ((doM m 1 (i:Int)).1=m/\(c.box=[]/\(l.getD i []).length<=c.got.length∨i ∈ ks∨bz=some i∨m.up=false))∨zh7 l (doM m 1 (i:Int)).1 < zh7 l m:=by
 have hil:i < l.length:=by rw [<- h.nc]; exact (List.getElem?_eq_some_iff.1 hc).1
 have h3:=hl.1
 rcases zl0 hl h hc with x | ⟨r,e,hb,hk,hz,hlt⟩ | ⟨e,hb,hk,hz,hlt⟩
 ·exact .inl x
 ·refine .inr (zfO (i:=i) (fun j _ hj=>?_) hil ?_)
  ·rw [e]
   unfold zeW zbZ zc3 zi0
   simp only []
   rw [zfH hj,zeQ hj]
  ·have hw:=zc4 h i
   have hv:=zdE hl h i
   have hs:=zj5 hc
   rw [e]
   unfold zeW
   rw [show zbZ { m with clients:=m.clients.set i ⟨c.calls,c.at_+1,false,c.gen,[],c.got++[r]⟩ } i=zbZ m i from rfl,show zc3 { m with clients:=m.clients.set i ⟨c.calls,c.at_+1,false,c.gen,[],c.got++[r]⟩ } i=zc3 m i from rfl,hw,hv,hs,
    zj5 (m:={ m with clients:=m.clients.set i ⟨c.calls,c.at_+1,false,c.gen,[],c.got++[r]⟩ }) (zf5 hc)]
   rw [show zbD ({ m with clients:=m.clients.set i ⟨c.calls,c.at_+1,false,c.gen,[],c.got++[r]⟩ }:Mc).clients i=c.got.length+1 by
    rw [zb9 (zf5 hc)]; simp,zb9 hc,decide_eq_false hz,decide_eq_false hk]
   have hbe:c.box.isEmpty=false:=by cases hbx:c.box with | nil=>exact absurd hbx hb | cons _ _=>rfl
   rw [hbe]
   generalize (l.getD i []).length=L at *
   simp [zjx]
   omega
 ·refine .inr (zfO (i:=i) (fun j _ hj=>?_) hil ?_)
  ·rw [e]
   unfold zeW zbZ zc3 zi0
   simp only [List.any_append,List.any_cons,List.any_nil,Bool.or_false]
   rw [zfH hj,zeQ hj,zlO (show i < 3 by omega)]
   have:(i == j)=false:=by simpa using fun x=>hj x.symm
   rw [this,Bool.or_false]
  ·have hw:=zc4 h i
   have hs:=zj5 hc
   rw [e]
   unfold zeW
   rw [show zbZ { m with server:={ m.server with box:=m.server.box++[zbA (zbi l i c.got.length)] },clients:=m.clients.set i ⟨c.calls,c.at_,true,m.server.gen,[],c.got⟩ } i=zbZ m i from rfl,hw,hs,zdE hl h i,zb9 hc]
   rw [show zbD ({ m with server:={ m.server with box:=m.server.box++[zbA (zbi l i c.got.length)] },clients:=m.clients.set i ⟨c.calls,c.at_,true,m.server.gen,[],c.got⟩ }:Mc).clients i=c.got.length by rw [zb9 (zf5 hc)],decide_eq_false hz,decide_eq_false hk]
   rw [show zc3 { m with server:={ m.server with box:=m.server.box++[zbA (zbi l i c.got.length)] },clients:=m.clients.set i ⟨c.calls,c.at_,true,m.server.gen,[],c.got⟩ } i=true by
    unfold zc3
    simp only [List.any_append,List.any_cons,List.any_nil,Bool.or_false]
    rw [zlO (show i < 3 by omega)]
    simp,hb]
   generalize (l.getD i []).length=L at *
   simp [zjx]
   omega

theorem znW (hl:za8 l) (h:MInv l m ks bz) (n:Int) :
  ((doM m 2 n).1=m/\(m.up=false∨ks=[]/\bz=none))∨zh7 l (doM m 2 n).1 < zh7 l m:=by
 have h3:=hl.1
 have hk3:∀ k ∈ ks,k < 3:=fun k hk=>by have:=h.ksl k hk; omega
 rcases zlG hl h n with x | ⟨i,q,rest,s,hb,hp,e⟩ | ⟨i,c,b,s,hb,hp,hc,hk,e⟩ | ⟨k,ks',c,b,hb,hks,hc,e⟩ | ⟨k,ks',r,p,s,hb,hks,hr,hpl,e⟩
 ·exact .inl x
 ·obtain ⟨hi,-,-,-,w5⟩:=h.work i hb
  obtain ⟨c,hc⟩:∃ c,m.clients[i]?=some c:=⟨_,List.getElem?_eq_getElem (by rw [h.nc]; exact hi)⟩
  have hlt:c.got.length < (l.getD i []).length:=by
   cases (h.clients i c hc).phase with
   | rest _ y=>exact absurd hb y
   | wait _ y=>exact absurd hb y
   | work _ _ _ _ _ g=>exact g
   | hear _ y=>exact absurd hb y
   | lost _ y=>exact absurd hb y
  refine .inr (zfO (i:=i) (fun j _ hj=>?_) hi ?_)
  ·rw [e]
   have hw:zbZ m j=false:=by rw [zc4 h j,hb]; simpa using fun x=>hj x.symm
   unfold zeW
   rw [show zbZ { m with store:=s,server:={ m.server with plan:=rest } } j=zbZ m j from rfl,hw]
   rfl
  ·rw [e]
   have hw:zbZ m i=true:=by rw [zc4 h i,hb]; simp
   unfold zeW
   rw [show zbZ { m with store:=s,server:={ m.server with plan:=rest } } i=zbZ m i from rfl,hw]
   rw [hp] at w5 ⊢
   rw [show zbD ({ m with store:=s,server:={ m.server with plan:=rest } }:Mc).clients i=zbD m.clients i from rfl,zb9 hc]
   generalize (l.getD i []).length=L at *
   simp [zjx] at w5 ⊢
   omega
 ·obtain ⟨hi,-,-,-,w5⟩:=h.work i hb
  have hlt:c.got.length < (l.getD i []).length:=by
   cases (h.clients i c hc).phase with
   | rest _ y=>exact absurd hb y
   | wait _ y=>exact absurd hb y
   | work _ _ _ _ _ g=>exact g
   | hear _ y=>exact absurd hb y
   | lost _ y=>exact absurd hb y
  refine .inr (zfO (i:=i) (fun j _ hj=>?_) hi ?_)
  ·rw [e]
   have hw:zbZ m j=false:=by rw [zc4 h j,hb]; simpa using fun x=>hj x.symm
   unfold zeW
   rw [hw,show zbZ { m with store:=s,server:=zbM m.server.gen m.server.box,clients:=m.clients.set i { c with box:=[b] } } j=false from rfl]
   rw [show zbD ({ m with store:=s,server:=zbM m.server.gen m.server.box,clients:=m.clients.set i { c with box:=[b] } }:Mc).clients j=zbD m.clients j from zfH hj]
   rw [show zi0 { m with store:=s,server:=zbM m.server.gen m.server.box,clients:=m.clients.set i { c with box:=[b] } } j=zi0 m j by unfold zi0; simp only []; rw [zeQ hj]]
   rfl
  ·rw [e]
   have hw:zbZ m i=true:=by rw [zc4 h i,hb]; simp
   unfold zeW
   rw [hw,show zbZ { m with store:=s,server:=zbM m.server.gen m.server.box,clients:=m.clients.set i { c with box:=[b] } } i=false from rfl]
   rw [show zc3 { m with store:=s,server:=zbM m.server.gen m.server.box,clients:=m.clients.set i { c with box:=[b] } } i=zc3 m i from rfl,zdE hl h i,decide_eq_false hk]
   rw [zj5 (m:={ m with store:=s,server:=zbM m.server.gen m.server.box,clients:=m.clients.set i { c with box:=[b] } }) (zf5 hc)]
   rw [show zbD ({ m with store:=s,server:=zbM m.server.gen m.server.box,clients:=m.clients.set i { c with box:=[b] } }:Mc).clients i=c.got.length by rw [zb9 (zf5 hc)],zb9 hc,hp]
   generalize (l.getD i []).length=L at *
   simp [zjx]
   omega
 ·have hk:k < l.length:=h.ksl k (by rw [hks]; simp)
  have hlt:c.got.length < (l.getD k []).length:=by
   have hin:k ∈ ks:=by rw [hks]; simp
   cases (h.clients k c hc).phase with
   | rest y=>exact absurd hin y
   | wait _ _ _ _ _ g=>exact g
   | work y=>exact absurd hin y
   | hear y=>exact absurd hin y
   | lost y=>exact absurd hin y
  have hnd:=h.nodup
  rw [hks] at hnd
  have hnk:=(List.nodup_cons.1 hnd).1
  have hk3':∀ x ∈ ks',x < 3:=fun x hx=>hk3 x (by rw [hks]; simp [hx])
  have hbusy:m.server.busy=false:=by have:=h.busy; rw [hb] at this; exact this
  refine .inr (zfO (i:=k) (fun j _ hj=>?_) hk ?_)
  ·rw [e]
   unfold zeW
   rw [show zbZ { m with server:={ m.server with box:=ks'.map (fun k=>zbA (zbi l k (zbD m.clients k))) },clients:=m.clients.set k { c with box:=[b] } } j=zbZ m j from rfl]
   rw [show zbD ({ m with server:={ m.server with box:=ks'.map (fun k=>zbA (zbi l k (zbD m.clients k))) },clients:=m.clients.set k { c with box:=[b] } }:Mc).clients j=zbD m.clients j from zfH hj]
   rw [show zi0 { m with server:={ m.server with box:=ks'.map (fun k=>zbA (zbi l k (zbD m.clients k))) },clients:=m.clients.set k { c with box:=[b] } } j=zi0 m j by unfold zi0; simp only []; rw [zeQ hj]]
   rw [show zc3 { m with server:={ m.server with box:=ks'.map (fun k=>zbA (zbi l k (zbD m.clients k))) },clients:=m.clients.set k { c with box:=[b] } } j=zc3 m j by
    rw [zdE hl h j,hks]
    unfold zc3
    simp only []
    rw [zji hk3']
    simp [hj]]
  ·rw [e]
   have hw:zbZ m k=false:=by rw [zc4 h k,hb]; simp
   unfold zeW
   rw [show zbZ { m with server:={ m.server with box:=ks'.map (fun k=>zbA (zbi l k (zbD m.clients k))) },clients:=m.clients.set k { c with box:=[b] } } k=zbZ m k from rfl,hw,zdE hl h k]
   rw [show zc3 { m with server:={ m.server with box:=ks'.map (fun k=>zbA (zbi l k (zbD m.clients k))) },clients:=m.clients.set k { c with box:=[b] } } k=false by
    unfold zc3
    simp only []
    rw [zji hk3']
    simp [hnk]]
   rw [zj5 (m:={ m with server:={ m.server with box:=ks'.map (fun k=>zbA (zbi l k (zbD m.clients k))) },clients:=m.clients.set k { c with box:=[b] } }) (zf5 hc)]
   rw [show zbD ({ m with server:={ m.server with box:=ks'.map (fun k=>zbA (zbi l k (zbD m.clients k))) },clients:=m.clients.set k { c with box:=[b] } }:Mc).clients k=c.got.length by rw [zb9 (zf5 hc)],zb9 hc,hks]
   generalize (l.getD k []).length=L at *
   simp [zjx]
   omega
 ·have hk:k < l.length:=h.ksl k (by rw [hks]; simp)
  obtain ⟨c,hc⟩:∃ c,m.clients[k]?=some c:=⟨_,List.getElem?_eq_getElem (by rw [h.nc]; exact hk)⟩
  have hlt:c.got.length < (l.getD k []).length:=by
   have hin:k ∈ ks:=by rw [hks]; simp
   cases (h.clients k c hc).phase with
   | rest y=>exact absurd hin y
   | wait _ _ _ _ _ g=>exact g
   | work y=>exact absurd hin y
   | hear y=>exact absurd hin y
   | lost y=>exact absurd hin y
  have hk3':∀ x ∈ ks',x < 3:=fun x hx=>hk3 x (by rw [hks]; simp [hx])
  refine .inr (zfO (i:=k) (fun j _ hj=>?_) hk ?_)
  ·rw [e]
   have hw:zbZ m j=false:=by rw [zc4 h j,hb]; simp
   unfold zeW
   rw [hw,show zbZ { m with server:={ m.server with box:=ks'.map (fun k=>zbA (zbi l k (zbD m.clients k))),busy:=true,now:=r,plan:=p,says:=s } } j=false by
    unfold zbZ
    simp only []
    rw [hr]
    simp
    omega]
   rw [show zc3 { m with server:={ m.server with box:=ks'.map (fun k=>zbA (zbi l k (zbD m.clients k))),busy:=true,now:=r,plan:=p,says:=s } } j=zc3 m j by
    rw [zdE hl h j,hks]
    unfold zc3
    simp only []
    rw [zji hk3']
    simp [hj]]
   rfl
  ·rw [e]
   have hw:zbZ m k=false:=by rw [zc4 h k,hb]; simp
   unfold zeW
   rw [hw,zdE hl h k,show zbZ { m with server:={ m.server with box:=ks'.map (fun k=>zbA (zbi l k (zbD m.clients k))),busy:=true,now:=r,plan:=p,says:=s } } k=true by
    unfold zbZ
    simp only []
    rw [hr]
    simp]
   rw [show zbD ({ m with server:={ m.server with box:=ks'.map (fun k=>zbA (zbi l k (zbD m.clients k))),busy:=true,now:=r,plan:=p,says:=s } }:Mc).clients k=zbD m.clients k from rfl,zb9 hc,hks]
   generalize (l.getD k []).length=L at *
   simp [zjx]
   omega
end
open Go Go.RowKit

section
variable {l:List (List Cl)} {m:Mc} {ks:List Nat} {bz:Option Nat}

theorem zqb (h:MInv l m ks bz):zh7 l (za6 m)=zh7 l m:=by
 unfold za6
 by_cases hu:m.up=true
 ·rw [if_pos hu]
 rw [if_neg hu]
 obtain ⟨rfl,rfl,-,-⟩:=h.down (by simpa using hu)
 by_cases hp:1 < m.pause
 ·rw [if_pos hp]; rfl
 rw [if_neg hp]
 have hs:=h.idle rfl
 have hb:m.server.box=[]:=h.box
 rw [hb] at hs
 refine zqi fun i _=>?_
 unfold zeW zbZ zc3 zi0
 rw [hs]
 rfl

theorem zo1 (n:Int) (m:Mc):(doM m 1 n).1.up=m.up/\(doM m 1 n).1.pause=m.pause/\(doM m 1 n).1.falls=m.falls/\(doM m 1 n).1.clients.length=m.clients.length:=by
 unfold doM
 rw [if_pos rfl]
 split
 ·exact ⟨rfl,rfl,rfl,rfl⟩
 ·simp only []
  split
  ·exact ⟨rfl,rfl,rfl,rfl⟩
  ·split
   ·split
    ·exact ⟨rfl,rfl,rfl,rfl⟩
    ·exact ⟨rfl,rfl,rfl,by simp⟩
   ·exact ⟨rfl,rfl,rfl,by simp⟩
theorem zpD (n:Int) (m:Mc):(doM m 2 n).1.up=m.up/\(doM m 2 n).1.pause=m.pause/\(doM m 2 n).1.falls=m.falls/\(doM m 2 n).1.clients.length=m.clients.length:=by
 unfold doM
 rw [if_neg (by decide),if_pos rfl]
 split
 ·exact ⟨rfl,rfl,rfl,rfl⟩
 ·simp only []
  split
  ·exact ⟨rfl,rfl,rfl,rfl⟩
  ·split
   ·split
    ·exact ⟨rfl,rfl,rfl,by simp⟩
    ·exact ⟨rfl,rfl,rfl,rfl⟩
   ·exact ⟨rfl,rfl,rfl,rfl⟩

def zr2 (l:List (List Cl)) (m:Mc) (ks:List Nat) (bz:Option Nat) (i:Nat):Prop :=
 ∀ c,m.clients[i]?=some c->c.box=[]/\(l.getD i []).length<=c.got.length∨i ∈ ks∨bz=some i∨m.up=false

def zdh (is:List Nat) (m:Mc):Mc:=is.foldl (fun m (n:Nat)=>(doM m 1 (n:Int)).1) m

theorem ziW (hl:za8 l) (is:List Nat) (his:∀ i ∈ is,i < l.length):∀ {m:Mc} {ks:List Nat} {bz:Option Nat},MInv l m ks bz ->
  (∃ ks' bz',MInv l (zdh is m) ks' bz')/\(zdh is m).up=m.up/\(zdh is m).pause=m.pause/\(zdh is m).clients.length=m.clients.length /\
  ((zdh is m=m/\∀ i ∈ is,zr2 l m ks bz i)∨zh7 l (zdh is m) < zh7 l m):=by
 induction is with
 | nil=>intro m ks bz h; exact ⟨⟨ks,bz,h⟩,rfl,rfl,rfl,.inl ⟨rfl,fun i hi=>by cases hi⟩⟩
 | cons i is ih =>
  intro m ks bz h
  have hi:i < l.length:=his i (by simp)
  obtain ⟨c,hc⟩:∃ c,m.clients[i]?=some c:=⟨_,List.getElem?_eq_getElem (by rw [h.nc]; exact hi)⟩
  obtain ⟨ks1,bz1,h1⟩:=zjK hl h (i:Int)
  have hup:=zo1 (i:Int) m
  have hstep:zdh (i::is) m=zdh is (doM m 1 (i:Int)).1:=rfl
  have his':∀ j ∈ is,j < l.length:=fun j hj=>his j (by simp [hj])
  rcases znD hl h hc with ⟨e,hbl⟩ | hlt
  ·rw [hstep,e]
   obtain ⟨a1,a2,a3,a4,a5⟩:=ih his' h
   refine ⟨a1,a2,a3,a4,?_⟩
   rcases a5 with ⟨b1,b2⟩ | b
   ·refine .inl ⟨b1,fun j hj=>?_⟩
    rcases List.mem_cons.1 hj with rfl | hj
    ·intro d hd
     obtain rfl:c=d:=by rw [hc] at hd; exact Option.some.inj hd
     exact hbl
    ·exact b2 j hj
   ·exact .inr b
  ·rw [hstep]
   obtain ⟨a1,a2,a3,a4,a5⟩:=ih his' h1
   refine ⟨a1,by rw [a2,hup.1],by rw [a3,hup.2.1],by rw [a4,hup.2.2.2],.inr ?_⟩
   rcases a5 with ⟨b1,_⟩ | b
   ·rw [b1]; exact hlt
   ·omega

def zdN (m:Mc):Bool:=m.clients.all fun c=>decide ((c.calls.length:Int)<=c.at_)
def zpP (l:List (List Cl)) (m:Mc):Nat:=zh7 l m+m.pause.toNat

theorem zpa (hl:za8 l) (h:MInv l m ks bz):∃ ks' bz',MInv l (roundM m) ks' bz':=by
 obtain ⟨ks1,bz1,h1⟩:=zfz h
 obtain ⟨⟨ks2,bz2,h2⟩,-,-,-,-⟩:=ziW hl (List.range (za6 m).clients.length) (fun i hi=>by rw [List.mem_range,h1.nc] at hi; exact hi) h1
 exact zjJ hl h2 0

theorem zkV (hl:za8 l) (h:MInv l m ks bz) (hn:zdN m=false):zpP l (roundM m) < zpP l m:=by
 obtain ⟨ks1,bz1,h1⟩:=zfz h
 have hphi:=zqb h
 obtain ⟨⟨ks2,bz2,h2⟩,u2,p2,n2,r2⟩:=ziW hl (List.range (za6 m).clients.length) (fun i hi=>by rw [List.mem_range,h1.nc] at hi; exact hi) h1
 have hr:roundM m=(doM (zdh (List.range (za6 m).clients.length) (za6 m)) 2 0).1:=rfl
 have hs:=znW hl h2 0
 have hsu:=zpD 0 (zdh (List.range (za6 m).clients.length) (za6 m))
 have hle:zh7 l (zdh (List.range (za6 m).clients.length) (za6 m))<=zh7 l m:=by
  rcases r2 with ⟨e,_⟩ | hlt
  ·rw [e,hphi]; exact Nat.le_refl _
  ·omega
 have hle2:zh7 l (roundM m)<=zh7 l (zdh (List.range (za6 m).clients.length) (za6 m)):=by
  rw [hr]
  rcases hs with ⟨e,_⟩ | hlt
  ·rw [e]; exact Nat.le_refl _
  ·omega
 have hpz:(roundM m).pause=(za6 m).pause:=by rw [hr,hsu.2.1,p2]
 unfold zpP
 rw [hpz]
 by_cases hu:m.up=true
 ·have ht:za6 m=m:=by unfold za6; rw [if_pos hu]
  have hp0:=h.upp hu
  rw [ht] at r2 hpz hr hs ⊢
  rw [ht] at h2 hle hle2 h1
  rcases r2 with ⟨e,hbl⟩ | hlt
  ·rw [e] at hs hr
   rcases hs with ⟨_,hx⟩ | hlt
   ·exfalso
    rcases hx with hx | ⟨rfl,rfl⟩
    ·rw [hu] at hx; cases hx
    ·-- nothing is in the server's hands: all are idle
     rw [e] at h2
     have hid:zdN m=true:=by
      unfold zdN
      rw [List.all_eq_true]
      intro c hc
      obtain ⟨i,hi,rfl⟩:=List.mem_iff_getElem.1 hc
      have hci:=List.getElem?_eq_getElem hi
      have ci:=h.clients i _ hci
      have hb:=hbl i (by rw [List.mem_range]; exact hi) _ hci
      have key:(l.getD i []).length<=m.clients[i].got.length:=by
       rcases hb with hb | hb | hb | hb
       ·exact hb.2
       ·exfalso
        have a1:=zdE hl h1 i
        rw [zdE hl h2 i,decide_eq_true hb] at a1
        simp at a1
       ·exfalso
        have a1:=zc4 h1 i
        rw [zc4 h2 i,decide_eq_true hb] at a1
        simp at a1
       ·rw [hu] at hb; cases hb
      rw [decide_eq_true_eq,ci.calls,ci.at_]
      omega
     rw [hid] at hn
     cases hn
   ·rw [hr]; omega
  ·omega
 ·have hd:=h.down (by simpa using hu)
  have hpt:(za6 m).pause.toNat < m.pause.toNat:=by
   unfold za6
   rw [if_neg hu]
   by_cases hp:1 < m.pause
   ·rw [if_pos hp]; show (m.pause - 1).toNat < _; omega
   ·rw [if_neg hp]; show (0:Int).toNat < _; omega
  omega

def zbg:Nat->Mc->Mc×Nat
 | 0,m=>(m,0)
 | n+1,m=>if zdN m then (m,0) else ((zbg n (roundM m)).1,(zbg n (roundM m)).2+1)
theorem ziM (hl:za8 l):∀ (n:Nat) {m:Mc} {ks:List Nat} {bz:Option Nat},MInv l m ks bz->zpP l m<=n->zdN (zbg n m).1=true/\(zbg n m).2<=n/\∃ ks' bz',MInv l (zbg n m).1 ks' bz'
 | 0,m,ks,bz,h,hp=>by
  refine ⟨?_,Nat.le_refl _,ks,bz,h⟩
  show zdN m=true
  cases hi:zdN m with
  | true=>rfl
  | false=>have:=zkV hl h hi; omega
 | n+1,m,ks,bz,h,hp=>by
  unfold zbg
  cases hi:zdN m with
  | true=>exact ⟨hi,Nat.zero_le _,ks,bz,h⟩
  | false =>
   have hlt:=zkV hl h hi
   obtain ⟨ks1,bz1,h1⟩:=zpa hl h
   obtain ⟨a,b,c⟩:=ziM hl n h1 (by omega)
   refine ⟨a,?_,c⟩
   show (zbg n (roundM m)).2+1<=n+1
   omega
theorem zqK (hl:za8 l) (h:MInv l m ks bz):zpP l m<=195:=by
 have h3:=hl.1
 have hp:m.pause.toNat<=3:=by
  by_cases hu:m.up=true
  ·rw [h.upp hu]; decide
  ·have:=h.down (by simpa using hu); omega
 have hs:zh7 l m<=l.length * 64:=zkf fun i hi=>by
  have h8:=(hl.2 _ (zgX (d:=[]) hi)).1
  unfold zeW
  omega
 have:l.length * 64<=192:=by omega
 unfold zpP
 omega
theorem zlT (hl:za8 l) (h:MInv l m ks bz):zdN (zbg 300 m).1=true/\(zbg 300 m).2<=300/\∃ ks' bz',MInv l (zbg 300 m).1 ks' bz' :=
 ziM hl 300 h (by have:=zqK hl h; omega)
theorem zmS (h:MInv l m ks bz) (hi:zdN m=true) {i:Nat} {c:Cn} (hc:m.clients[i]?=some c):c.got.length=(l.getD i []).length/\(zce m.store.past i).length=(l.getD i []).length/\c.got=zcI m.store.past i:=by
 have ci:=h.clients i c hc
 have hm:c ∈ m.clients:=List.mem_of_getElem? hc
 unfold zdN at hi
 rw [List.all_eq_true] at hi
 have:=hi c hm
 rw [decide_eq_true_eq,ci.calls,ci.at_] at this
 have h1:=ci.most
 have h2:=ci.step
 have h3:=zfS m.store.past i
 refine ⟨by omega,by omega,?_⟩
 have hg:=ci.got
 rwa [List.take_of_length_le (by omega)] at hg
end
open Go Go.RowKit

theorem zpo (r:Rq) (b:List Rq) (i:Nat):zce (r::b) i=if r.client=(i:Int) then r::zce b i else zce b i:=by
 unfold zce
 rw [List.filter_cons]
 by_cases h:r.client=(i:Int)
 ·simp [h]
 ·simp [h]

section
variable {l:List (List Cl)} {m:Mc} {ks:List Nat} {bz:Option Nat}

end

/-! What was done stays. -/

structure Grow (m m':Mc):Prop where
 past:∃ s,m'.store.past=m.store.past++s
 len:m'.clients.length=m.clients.length
 got:∀ (i:Nat) (c:Cn),m.clients[i]?=some c->∃ (c':Cn) (t:List Rp),m'.clients[i]?=some c'/\c'.got=c.got++t

theorem Grow.refl (m:Mc):Grow m m:=⟨⟨[],by simp⟩,rfl,fun i c h=>⟨c,[],h,by simp⟩⟩
theorem Grow.trans {a b c:Mc} (h:Grow a b) (k:Grow b c):Grow a c:=by
 refine ⟨?_,k.len.trans h.len,fun i x hx=>?_⟩
 ·obtain ⟨s,hs⟩:=h.past
  obtain ⟨t,ht⟩:=k.past
  exact ⟨s++t,by rw [ht,hs,List.append_assoc]⟩
 ·obtain ⟨y,t,hy,e⟩:=h.got i x hx
  obtain ⟨z,u,hz,f⟩:=k.got i y hy
  exact ⟨z,t++u,hz,by rw [f,e,List.append_assoc]⟩

theorem zjY {m:Mc} {st:St} {sv:Sv} {k:Nat} {x y:Cn} (hs:∃ s,st.past=m.store.past++s) (hk:m.clients.getD k (zbO [])=x) (hy:∃ t,y.got=x.got++t) :
  Grow m { m with store:=st,server:=sv,clients:=m.clients.set k y }:=by
 refine ⟨hs,by simp,fun i c hc=>?_⟩
 by_cases hik:k=i
 ·subst hik
  have e:c=x:=by rw [<- hk,List.getD_eq_getElem?_getD,hc]; rfl
  subst e
  obtain ⟨t,ht⟩:=hy
  exact ⟨y,t,List.getElem?_set_self (List.getElem?_eq_some_iff.1 hc).1,ht⟩
 ·exact ⟨c,[],by rw [List.getElem?_set_ne hik]; exact hc,by simp⟩

theorem zoN (c:Cn) (me gen:Int) (up:Bool):∃ t,(zcy c me gen up).1.got=c.got++t:=by
 unfold zcy
 cases hb:c.box with
 | nil =>
  simp only []
  repeat' split
  all_goals exact ⟨[],by simp⟩
 | cons b r =>
  simp only []
  split
  ·exact ⟨_,rfl⟩
  ·exact ⟨[],by simp⟩
theorem znA (s:St) (v:Sv):(zaz s v).1.past=s.past∨∃ r,(zaz s v).1.past=s.past++[r]:=by
 unfold zaz
 by_cases hb:v.busy=true
 ·rw [if_pos hb]
  cases v.plan with
  | nil=>exact .inr ⟨_,rfl⟩
  | cons q rest =>
   left
   show (zau s q).past=s.past
   unfold zau
   split <;> rfl
 ·rw [if_neg hb]
  left
  cases v.box with
  | nil=>rfl
  | cons b r =>
   simp only []
   repeat' split
   all_goals rfl
theorem zre (c:Cn) (b:List UInt8):(zcg c b).got=c.got:=by
 unfold zcg
 split <;> rfl

theorem zrG (m:Mc) (kind n:Int):Grow m (doM m kind n).1:=by
 unfold doM
 simp only []
 by_cases h1:kind=1
 ·rw [if_pos h1]
  by_cases h2:n < 0∨(m.clients.length:Int)<=n
  ·rw [if_pos h2]; exact Grow.refl m
  rw [if_neg h2]
  by_cases h3:(zcy (m.clients.getD n.toNat (zbO [])) n m.server.gen m.up).2.2≠0
  ·rw [if_pos h3]; exact Grow.refl m
  rw [if_neg h3]
  by_cases h4:(zcy (m.clients.getD n.toNat (zbO [])) n m.server.gen m.up).2.1≠[]
  ·rw [if_pos h4]
   by_cases h5:(zbY m.server (zcy (m.clients.getD n.toNat (zbO [])) n m.server.gen m.up).2.1).2≠0
   ·rw [if_pos h5]; exact Grow.refl m
   rw [if_neg h5]
   exact zjY (st:=m.store) ⟨[],by simp⟩ rfl (zoN _ _ _ _)
  ·rw [if_neg h4]
   exact zjY (st:=m.store) (sv:=m.server) ⟨[],by simp⟩ rfl (zoN _ _ _ _)
 rw [if_neg h1]
 by_cases h2:kind=2
 ·rw [if_pos h2]
  by_cases h3:¬ m.up=true
  ·rw [if_pos h3]; exact Grow.refl m
  rw [if_neg h3]
  by_cases h4:(zaz m.store m.server).2.2.2≠0
  ·rw [if_pos h4]; exact Grow.refl m
  rw [if_neg h4]
  have hp:∃ s,(zaz m.store m.server).1.past=m.store.past++s:=by
   rcases znA m.store m.server with h | ⟨r,h⟩
   ·exact ⟨[],by rw [h]; simp⟩
   ·exact ⟨_,h⟩
  by_cases h5:(zaz m.store m.server).2.2.1≠[]
  ·rw [if_pos h5]
   by_cases h6:((zaz m.store m.server).2.2.1.getD 1 0).toNat < m.clients.length
   ·rw [if_pos h6]
    exact zjY hp rfl ⟨[],by rw [zre]; simp⟩
   ·rw [if_neg h6]
    exact ⟨hp,rfl,fun i c h=>⟨c,[],h,by simp⟩⟩
  ·rw [if_neg h5]
   exact ⟨hp,rfl,fun i c h=>⟨c,[],h,by simp⟩⟩
 rw [if_neg h2]
 by_cases h3:kind=3
 ·rw [if_pos h3]
  unfold zd5
  repeat' split
  all_goals exact ⟨⟨[],by simp⟩,rfl,fun i c h=>⟨c,[],h,by simp⟩⟩
 rw [if_neg h3]
 by_cases h4:kind=4
 ·rw [if_pos h4]
  show Grow m (za6 m)
  unfold za6
  repeat' split
  all_goals exact ⟨⟨[],by simp [zbF]⟩,rfl,fun i c h=>⟨c,[],h,by simp⟩⟩
 rw [if_neg h4]
 exact Grow.refl m

/-! A machine is whole. -/

/-! Alone it is as one by one. -/

theorem zol {calls:List Cl} {m:Mc} {ks:List Nat} {bz:Option Nat} (h:MInv [calls] m ks bz):zce m.store.past 0=m.store.past:=by
 unfold zce
 rw [List.filter_eq_self]
 intro r hr
 obtain ⟨i,t,hi,-,rfl⟩:=h.past r hr
 have:i=0:=by simpa using hi
 subst this
 simp [zbi]

theorem znX {calls:List Cl} {m:Mc} {ks:List Nat} {bz:Option Nat} (h:MInv [calls] m ks bz):zcI m.store.past 0=(zef (m.store.past.map Rq.call)).2.map fun x=>⟨x.1,x.2⟩:=by
 unfold zcI
 have hall:∀ x ∈ m.store.past.zip (zef (m.store.past.map Rq.call)).2,decide (x.1.client=((0:Nat):Int))=true:=fun x hx=>by
  have hm:=(List.of_mem_zip hx).1
  obtain ⟨i,t,hi,-,e⟩:=h.past x.1 hm
  have:i=0:=by simpa using hi
  subst this
  rw [e]
  simp [zbi]
 rw [List.filter_eq_self.2 hall]
 have hlen:(zef (m.store.past.map Rq.call)).2.length=m.store.past.length:=by rw [zlB]; simp
 generalize (zef (m.store.past.map Rq.call)).2=q at *
 clear hall h
 generalize m.store.past=p at *
 induction p generalizing q with
 | nil=>cases q with
  | nil=>rfl
  | cons _ _=>cases hlen
 | cons r p ih=>cases q with
  | nil=>cases hlen
  | cons x q =>
   simp only [List.zip_cons_cons,List.map_cons]
   rw [ih q (by simpa using hlen)]

theorem zsn {calls:List Cl} {m:Mc} {ks:List Nat} {bz:Option Nat} (h:MInv [calls] m ks bz) (hi:zdN m=true) :
  m.clients.length=1/\∀ c,m.clients[0]?=some c->c.got=(zef calls).2.map (fun x=>⟨x.1,x.2⟩)/\zbR (zaD m.store.cells m.store.undo)=(zef calls).1:=by
 refine ⟨h.nc,fun c hc=>?_⟩
 obtain ⟨-,h2,h3⟩:=zmS h hi hc
 have ci:=h.clients 0 c hc
 have hp:m.store.past.map Rq.call=calls:=by
  rw [<- zol h,ci.done,h2]
  refine List.ext_getElem (by simp) fun k k1 k2=>?_
  simp [zbi,k2]
 refine ⟨by rw [h3,znX h,hp],by rw [h.nm]; unfold zd8; rw [hp]⟩

open Go Go.RowKit

theorem sumTo_pick (g:Nat->Nat) (k c:Nat):∀ n,zdo (fun i=>g i+if k=i then c else 0) n=zdo g n+if k < n then c else 0
 | 0=>by simp [zdo]
 | n+1=>by
  unfold zdo
  rw [sumTo_pick g k c n]
  by_cases h1:k < n
  ·rw [if_pos h1,if_neg (by omega),if_pos (by omega)]; omega
  ·rw [if_neg h1]
   by_cases h2:k=n
   ·rw [if_pos h2,if_pos (by omega)]; omega
   ·rw [if_neg h2,if_neg (by omega)]; omega

theorem zqE {n:Nat} {p:List Rq} (hp:∀ r ∈ p,∃ i:Nat,i < n/\r.client=(i:Int)) (f:Rq->Bool):zdo (fun i=>(zce p i).countP f) n=p.countP f:=by
 induction p with
 | nil =>
  have:zdo (fun i=>(zce [] i).countP f) n=zdo (fun _=>0) n:=rfl
  rw [this]
  clear this hp
  induction n with
  | zero=>rfl
  | succ n ih=>unfold zdo; rw [ih]; rfl
 | cons r p ih =>
  obtain ⟨k,hk,hc⟩:=hp r (by simp)
  have e:(fun i=>(zce (r::p) i).countP f)=fun i=>(zce p i).countP f+if k=i then (if f r then 1 else 0) else 0:=by
   funext i
   rw [zpo,hc]
   by_cases hi:k=i
   ·subst hi; rw [if_pos rfl,if_pos rfl,List.countP_cons]
   ·rw [if_neg (by omega),if_neg hi]; rfl
  rw [e,sumTo_pick,if_pos hk,ih (fun x hx=>hp x (by simp [hx])),List.countP_cons]

/-! zdq counts once. -/

/-! Nothing is lost in turning. -/

open Go Go.RowKit

structure SzM (m:Mc):Prop where
 undo:m.store.undo.length+m.server.plan.length<=3
 answers:m.store.answers.length<=m.store.past.length

theorem zsI (l:List (List Cl)):SzM (za1 l):=⟨(by decide:(0:Nat)+0<=3),Nat.le_refl _⟩
theorem zqe {s:St} {v:Sv} (h1:s.undo.length+v.plan.length<=3) (h2:s.answers.length<=s.past.length) (hc:v.busy=false->s.undo=[]) :
  (zaz s v).1.undo.length+(zaz s v).2.1.plan.length<=3/\(zaz s v).1.answers.length<=(zaz s v).1.past.length:=by
 unfold zaz
 split
 ·split
  ·rename_i p l hp
   obtain ⟨w1,w2,w3⟩:=zjC s p
   rw [hp] at h1
   simp only [List.length_cons] at h1
   exact ⟨by simp only []; omega,by simp only [w2,w3]; exact h2⟩
  ·have:=zh0 s.answers ⟨v.now.client,v.now.token,v.says⟩
   refine ⟨by simp [zb3,zbM],?_⟩
   simp only [zb3,List.length_append,List.length_cons,List.length_nil]
   omega
 ·rename_i hb
  have hu:=hc (by simpa using hb)
  split
  ·exact ⟨h1,h2⟩
  ·dsimp only
   have hp:∀ c,s.undo.length+(zbq (zbR s.cells) c).length<=3:=fun c=>by
    rw [hu]
    simpa using zkr (zbR s.cells) c
   repeat' split
   all_goals first | exact ⟨h1,h2⟩ | exact ⟨hp _,h2⟩
theorem zpc (v:Sv) (b:List UInt8):(zbY v b).1.plan=v.plan:=by
 unfold zbY
 split <;> rfl
theorem zow {m:Mc} (hs:SzM m):SzM (za6 m):=by
 unfold za6
 split
 ·exact hs
 ·split
  ·exact ⟨hs.undo,hs.answers⟩
  ·exact ⟨(by decide:(0:Nat)+0<=3),hs.answers⟩
theorem zsk {l:List (List Cl)} {m:Mc} {ks:List Nat} {bz:Option Nat} (h:MInv l m ks bz) (hs:SzM m) (kind n:Int):SzM (doM m kind n).1:=by
 unfold doM
 split
 ·split
  ·exact hs
  ·dsimp only
   split
   ·exact hs
   ·split
    ·split
     ·exact hs
     ·exact ⟨by simp only [zpc]; exact hs.undo,hs.answers⟩
    ·exact ⟨hs.undo,hs.answers⟩
 ·split
  ·split
   ·exact hs
   ·rename_i hu
    dsimp only
    have hu:m.up=true:=by simpa using hu
    obtain ⟨z1,z2⟩:=zqe hs.undo hs.answers fun hb=>h.clean hu (by
     have hz:=h.busy
     rw [hb] at hz
     cases bz with
     | none=>rfl
     | some i=>cases hz)
    repeat' split
    all_goals first | exact hs | exact ⟨z1,z2⟩
  ·split
   ·unfold zd5
    split
    ·exact hs
    ·split
     ·exact hs
     ·exact ⟨Nat.le_trans (Nat.add_le_add_left (Nat.zero_le _) _) hs.undo,hs.answers⟩
   ·split
    ·exact zow hs
    ·exact hs
theorem zoI {l:List (List Cl)} (hl:za8 l):∀ (steps:List (Int×Int)) {m:Mc} {ks:List Nat} {bz:Option Nat},MInv l m ks bz->SzM m->SzM (zcu m steps)
 | [],_,_,_,_,hs=>hs
 | p::q,m,ks,bz,h,hs=>by
  obtain ⟨ks1,bz1,h1⟩:=zjt hl h p.1 p.2
  exact zoI hl q h1 (zsk h hs p.1 p.2)
theorem zsu {l:List (List Cl)} (hl:za8 l) (steps:List (Int×Int)):SzM (zcu (za1 l) steps):=by
 obtain ⟨ks,bz,h⟩:=zje hl []
 exact zoI hl steps (m:=za1 l) h (zsI l)

theorem zp0 {l:List (List Cl)} (hl:za8 l) {m:Mc} {ks:List Nat} {bz:Option Nat} (h:MInv l m ks bz) (hs:SzM m):SizeM m 24:=by
 have hp:m.store.past.length<=24:=by
  have h1:=zqE (n:=l.length) (p:=m.store.past) (fun r hr=>by
   obtain ⟨i,t,hi,_,rfl⟩:=h.past r hr
   exact ⟨i,hi,rfl⟩) (fun _=>true)
  rw [List.countP_true] at h1
  have h2:zdo (fun i=>(zce m.store.past i).length) l.length<=l.length * 8:=zkf fun i hi=>by
   obtain ⟨c,hc⟩:∃ c,m.clients[i]?=some c:=⟨m.clients[i]'(by rw [h.nc]; exact hi),List.getElem?_eq_getElem _⟩
   have h3:=(h.clients i c hc).most
   have h4:(l.getD i []).length<=8:=by
    rw [List.getD_eq_getElem?_getD,List.getElem?_eq_getElem hi]
    exact (hl.2 _ (List.getElem_mem hi)).1
   omega
  have h5:=hl.1
  have h6:m.store.past.length<=l.length * 8:=by
   rw [<- h1]
   exact h2
  omega
 refine ⟨?_,?_,hp,?_,fun c hc=>?_⟩
 ·have:=hs.undo; omega
 ·have:=hs.answers; omega
 ·rw [h.box,List.length_map]
  have:=zhY h.nodup h.ksl
  have:=hl.1
  omega
 ·obtain ⟨i,hi⟩:=List.mem_iff_getElem?.1 hc
  have ci:=h.clients i c hi
  have h3:=ci.most
  have h4:(l.getD i []).length<=8:=by
   rw [List.getD_eq_getElem?_getD]
   cases e:l[i]? with
   | none=>exact Nat.zero_le _
   | some y=>exact (hl.2 y (List.mem_of_getElem? e)).1
  have h5:=ci.step
  refine ⟨by omega,?_⟩
  cases ci.phase with
  | rest _ _ _ e _=>rw [e]; exact Nat.zero_le _
  | wait _ _ _ _ e _=>rw [e]; exact Nat.zero_le _
  | work _ _ _ _ e _ _=>rw [e]; exact Nat.zero_le _
  | lost _ _ _ e _ _=>rw [e]; exact Nat.zero_le _
  | hear _ _ _ _ e=>rw [e]; exact (by decide:(1:Nat)<=24)

structure GzM (l:List (List Cl)) (m:Mc):Prop where
 right:za8 l
 inv:∃ ks bz,MInv l m ks bz
 sz:SzM m
theorem GzM.size {l:List (List Cl)} {m:Mc} (h:GzM l m):SizeM m 24:=by
 obtain ⟨h1,⟨ks,bz,h2⟩,h3⟩:=h
 exact zp0 h1 h2 h3
theorem zqG {l:List (List Cl)} {m:Mc} (h:GzM l m) (kind n:Int):GzM l (doM m kind n).1:=by
 obtain ⟨h1,⟨ks,bz,h2⟩,h3⟩:=h
 exact ⟨h1,zjt h1 h2 kind n,zsk h2 h3 kind n⟩
theorem zr1 {l:List (List Cl)} {m:Mc} (h:GzM l m):GzM l (za6 m):=by
 obtain ⟨h1,⟨ks,bz,h2⟩,h3⟩:=h
 exact ⟨h1,⟨_,_,(zfz h2).choose_spec.choose_spec⟩,zow h3⟩
theorem zjb {l:List (List Cl)} (hl:za8 l) (steps:List (Int×Int)):GzM l (zcu (za1 l) steps):=⟨hl,zje hl steps,zsu hl steps⟩
theorem zou {l:List (List Cl)}:∀ (q:List Nat) {m:Mc},GzM l m->GzM l (q.foldl (fun m (n:Nat)=>(doM m 1 (n:Int)).1) m)
 | [],_,h=>h
 | n::q,_,h=>zou q (zqG h 1 (n:Int))
theorem zjB {l:List (List Cl)} {m:Mc} (h:GzM l m):GzM l (roundM m):=zqG (zou _ (zr1 h)) 2 0
theorem zkS {l:List (List Cl)}:∀ (n:Nat) {m:Mc},GzM l m->GzM l (zbg n m).1
 | 0,_,h=>h
 | n+1,_,h=>by
  unfold zbg
  split
  ·exact h
  ·exact zkS n (zjB h)

open Go Go.RowKit

theorem zqS {i t:Nat} {r:Rp} (hi:i < 3) (ht:t < 8) (h:zrT r):zbz ⟨i,t,r⟩=0:=by
 obtain ⟨h1,h2,h3,h4,h5⟩:=h
 unfold zbz
 rw [if_neg]
 simp only []
 omega
theorem znL {l:List (List Cl)} (hl:za8 l) {m:Mc} {ks:List Nat} {bz:Option Nat} (h:MInv l m ks bz) :
  (zaz m.store m.server).2.2.1=[]∨∃ (i:Nat) (t:Int) (r:Rp),zbz ⟨i,t,r⟩=0/\i < m.clients.length/\(zaz m.store m.server).2.2.1=zb1 ⟨i,t,r⟩:=by
 have h3:=hl.1
 have h8:∀ i,(l.getD i []).length<=8:=fun i=>by
  rw [List.getD_eq_getElem?_getD]
  cases e:l[i]? with
  | none=>simp
  | some x=>exact (hl.2 x (List.mem_of_getElem? e)).1
 cases bz with
 | some i =>
  have hbusy:m.server.busy=true:=h.busy
  obtain ⟨hi,w2,w3,w4,w5⟩:=h.work i rfl
  obtain ⟨c,hc⟩:∃ c,m.clients[i]?=some c:=⟨_,List.getElem?_eq_getElem (by rw [h.nc]; exact hi)⟩
  have ci:=h.clients i c hc
  rw [zb9 hc] at w2
  cases hp:m.server.plan with
  | cons q rest=>rw [zgJ hbusy hp]; exact .inl rfl
  | nil =>
   have p5:c.got.length < (l.getD i []).length:=by
    cases ci.phase with
    | rest a b=>exact absurd rfl b
    | wait a b=>exact absurd rfl b
    | work a b d e f g k=>exact g
    | hear a b=>exact absurd rfl b
    | lost a b=>exact absurd rfl b
   have hk:=ze2 hl hi p5
   rw [zgj hbusy hp,w2]
   refine .inr ⟨i,c.got.length,m.server.says,zqS (by omega) (by have:=h8 i; omega) ?_,by rw [h.nc]; exact hi,rfl⟩
   rw [w3,w2]
   exact zoY (zhN hl h.past) hk
 | none =>
  have hbusy:m.server.busy=false:=h.busy
  cases ks with
  | nil=>rw [zhK hbusy (by rw [h.box]; rfl)]; exact .inl rfl
  | cons k ks =>
   have hk:k < l.length:=h.ksl k (by simp)
   obtain ⟨c,hc⟩:∃ c,m.clients[k]?=some c:=⟨_,List.getElem?_eq_getElem (by rw [h.nc]; exact hk)⟩
   have ci:=h.clients k c hc
   have p5:c.got.length < (l.getD k []).length:=by
    cases ci.phase with
    | rest a=>exact absurd (by simp) a
    | wait a b d e f g=>exact g
    | work a=>exact absurd (by simp) a
    | hear a=>exact absurd (by simp) a
    | lost a=>exact absurd (by simp) a
   have hbox:m.server.box=zbA (zbi l k c.got.length)::ks.map (fun k=>zbA (zbi l k (zbD m.clients k))):=by
    rw [h.box,List.map_cons,zb9 hc]
   have hlast:=ci.last
   have htl:=zfS m.store.past k
   have hmost:=ci.most
   have hS:=serve_take (s:=m.store) hbusy hbox (zhg hl hk p5)
   rw [show (zbi l k c.got.length).client=(k:Int) from rfl,hlast] at hS
   rw [hS]
   by_cases hz:(zce m.store.past k).length=0
   ·rw [if_pos hz,if_neg (by simp)]
    exact .inl rfl
   ·rw [if_neg hz]
    have h8k:=h8 k
    repeat' split
    ·exact .inr ⟨k,((zce m.store.past k).length - 1:Nat),_,ziF hl h.past hk (by omega) (by omega),by rw [h.nc]; exact hk,rfl⟩
    ·exact .inl rfl
    ·exact .inl rfl
end Go.Mk

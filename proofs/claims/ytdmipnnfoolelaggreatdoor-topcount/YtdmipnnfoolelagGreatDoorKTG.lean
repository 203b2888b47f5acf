/- zbb of the proof, merged: Math14 Math15 Math16 Math17. -/
import Derived.Test.YtdmipnnfoolelagGreatDoorKTF

namespace Go.Mk
open Go Go.RowKit

theorem zlB {l:List (List Cl)} (hl:zaG l) {m:Mc} {ks:List Nat} {bz:Option Nat} (h:MInv l m ks bz) {i:Nat} {c:Cn} (hc:m.clients[i]?=some c) :
  ((doM m 1 (i:Int)).1=m/\(c.box=[]/\(l.getD i []).length<=c.got.length∨i ∈ ks∨bz=some i∨m.up=false)) ∨
  (∃ r,(doM m 1 (i:Int)).1={ m with clients:=m.clients.set i ⟨c.calls,c.at_+1,false,c.gen,[],c.got++[r]⟩ }/\c.box≠[]/\i ∉ ks/\bz≠some i/\c.got.length < (l.getD i []).length) ∨
  ((doM m 1 (i:Int)).1={ m with server:={ m.server with box:=m.server.box++[zbv (zax l i c.got.length)] },clients:=m.clients.set i ⟨c.calls,c.at_,true,m.server.gen,[],c.got⟩ }/\c.box=[]/\i ∉ ks/\bz≠some i/\c.got.length < (l.getD i []).length):=by
 have hi:i < m.clients.length:=(List.getElem?_eq_some_iff.1 hc).1
 have hil:i < l.length:=by rw [<- h.nc]; exact hi
 have hgd:m.clients.getD i (zbO [])=c:=by rw [List.getD_eq_getElem?_getD,hc]; rfl
 have ci:=h.clients i c hc
 have h8:(l.getD i []).length<=8:=(hl.2 _ (zfI hil)).1
 have hcalls:=ci.calls
 have hat:=ci.at_
 have hdo:doM m 1 (i:Int)=(if (zde c (i:Int) m.server.gen m.up).2.2≠0 then (m,(zde c (i:Int) m.server.gen m.up).2.2) else if (zde c (i:Int) m.server.gen m.up).2.1≠[] then if (zbZ m.server (zde c (i:Int) m.server.gen m.up).2.1).2≠0 then (m,(zbZ m.server (zde c (i:Int) m.server.gen m.up).2.1).2) else ({ m with server:=(zbZ m.server (zde c (i:Int) m.server.gen m.up).2.1).1,clients:=m.clients.set i (zde c (i:Int) m.server.gen m.up).1 },0) else ({ m with clients:=m.clients.set i (zde c (i:Int) m.server.gen m.up).1 },0)):=by
  unfold doM
  rw [if_pos rfl,if_neg (by omega)]
  simp only [Int.toNat_natCast,hgd]
 have hstay:(zde c (i:Int) m.server.gen m.up).2.2≠0->(doM m 1 (i:Int)).1=m:=fun hne=>by rw [hdo,if_pos hne]
 have hempty:c.box=[]->i ∉ ks->bz≠some i->(c.sent=true->m.up=true->c.gen≠m.server.gen) ->
   ((doM m 1 (i:Int)).1=m/\(c.box=[]/\(l.getD i []).length<=c.got.length∨i ∈ ks∨bz=some i∨m.up=false))∨((doM m 1 (i:Int)).1={ m with server:={ m.server with box:=m.server.box++[zbv (zax l i c.got.length)] },clients:=m.clients.set i ⟨c.calls,c.at_,true,m.server.gen,[],c.got⟩ }/\c.box=[]/\i ∉ ks/\bz≠some i/\c.got.length < (l.getD i []).length):=by
  intro hb hk hz hs
  have hG:=zee (c:=c) (me:=(i:Int)) (gen:=m.server.gen) (up:=m.up) hb
  by_cases hd:(c.calls.length:Int)<=c.at_
  ·rw [if_pos hd] at hG
   exact .inl ⟨hstay (by rw [hG]; simp),.inl ⟨hb,by rw [<- hcalls]; omega⟩⟩
  rw [if_neg hd] at hG
  by_cases hu:m.up=true
  case neg =>
   rw [if_pos hu] at hG
   exact .inl ⟨hstay (by rw [hG]; simp),.inr (.inr (.inr (by simpa using hu)))⟩
  rw [if_neg (fun x=>x hu)] at hG
  by_cases hw:c.sent=true/\c.gen=m.server.gen
  ·exact absurd hw.2 (hs hw.1 hu)
  rw [if_neg hw] at hG
  have hlt:c.got.length < (l.getD i []).length:=by rw [<- hcalls]; omega
  have hreq:(⟨(i:Int),c.at_,c.calls.getD c.at_.toNat ⟨0,0,0,0⟩⟩:Rq)=zax l i c.got.length:=by
   unfold zax
   rw [hcalls,hat]
   rfl
  rw [hreq] at hG
  have hks:ks.length < 3:=by
   have hsub:(i::ks).Nodup:=List.nodup_cons.2 ⟨hk,h.nodup⟩
   have hle:(i::ks).length<=l.length:=zhe hsub (fun x hx=>by
    rcases List.mem_cons.1 hx with rfl | hx
    ·exact hil
    ·exact h.ksl x hx)
   have:=hl.1
   simp at hle
   omega
  have hbl:m.server.box.length=ks.length:=by rw [h.box,List.length_map]
  have hcome:zbZ m.server (zbv (zax l i c.got.length))=({ m.server with box:=m.server.box++[zbv (zax l i c.got.length)] },0):=by
   unfold zbZ
   rw [if_neg (by omega)]
  rw [hG] at hdo
  rw [if_neg (by simp),if_pos (by simp [zbv])] at hdo
  simp only [] at hdo
  rw [hcome,if_neg (by simp)] at hdo
  exact .inr ⟨by rw [hdo],hb,hk,hz,hlt⟩
 cases ci.phase with
 | rest a b d e f =>
  rcases hempty e a b (fun x=>by rw [d] at x; cases x) with x | x
  ·exact .inl x
  ·exact .inr (.inr x)
 | lost a b d e f g =>
  rcases hempty e a b (fun _=>g) with x | x
  ·exact .inl x
  ·exact .inr (.inr x)
 | wait a b d e f g =>
  refine .inl ⟨hstay ?_,.inr (.inl a)⟩
  rw [zee f,if_neg (by rw [hcalls,hat]; omega)]
  by_cases hu:m.up=true
  ·rw [if_neg (fun x=>x hu),if_pos ⟨d,e⟩]; simp
  ·rw [if_pos hu]; simp
 | work a b d e f g k =>
  refine .inl ⟨hstay ?_,.inr (.inr (.inl b))⟩
  rw [zee f,if_neg (by rw [hcalls,hat]; omega)]
  by_cases hu:m.up=true
  ·rw [if_neg (fun x=>x hu),if_pos ⟨d,e⟩]; simp
  ·rw [if_pos hu]; simp
 | hear a b d e f =>
  have htl:=zdu m.store.past i
  have hmost:=ci.most
  have hw:=zh0 hl h.past hil (t:=c.got.length) (by omega) (by omega)
  have hG:=zkM (gen:=m.server.gen) (up:=m.up) f hw rfl ci.at_.symm d
  rw [hG] at hdo
  rw [if_neg (by simp),if_neg (by simp)] at hdo
  exact .inr (.inl ⟨_,by rw [hdo],by rw [f]; simp,a,b,by omega⟩)

theorem zlj {l:List (List Cl)} (hl:zaG l) {m:Mc} {ks:List Nat} {bz:Option Nat} (h:MInv l m ks bz) (n:Int) :
  ((doM m 2 n).1=m/\(m.up=false∨ks=[]/\bz=none)) ∨
  (∃ i q rest s,bz=some i/\m.server.plan=q::rest/\(doM m 2 n).1={ m with store:=s,server:={ m.server with plan:=rest } }) ∨
  (∃ i c b s,bz=some i/\m.server.plan=[]/\m.clients[i]?=some c/\i ∉ ks/\(doM m 2 n).1={ m with store:=s,server:=zbQ m.server.gen m.server.box,clients:=m.clients.set i { c with box:=[b] } }) ∨
  (∃ k ks' c b,bz=none/\ks=k::ks'/\m.clients[k]?=some c/\(doM m 2 n).1={ m with server:={ m.server with box:=ks'.map (fun k=>zbv (zax l k (za6 m.clients k))) },clients:=m.clients.set k { c with box:=[b] } }) ∨
  (∃ k ks' r p s,bz=none/\ks=k::ks'/\r.client=(k:Int)/\p.length<=3/\(doM m 2 n).1={ m with server:={ m.server with box:=ks'.map (fun k=>zbv (zax l k (za6 m.clients k))),busy:=true,now:=r,plan:=p,says:=s } }):=by
 have h3:=hl.1
 have hdo:m.up=true->doM m 2 n=(if (zaI m.store m.server).2.2.2≠0 then (m,(zaI m.store m.server).2.2.2) else if (zaI m.store m.server).2.2.1≠[] then
   if ((zaI m.store m.server).2.2.1.getD 1 0).toNat < m.clients.length then ({ m with store:=(zaI m.store m.server).1,server:=(zaI m.store m.server).2.1,clients:=m.clients.set ((zaI m.store m.server).2.2.1.getD 1 0).toNat (zcE (m.clients.getD ((zaI m.store m.server).2.2.1.getD 1 0).toNat (zbO [])) (zaI m.store m.server).2.2.1) },0)
   else ({ m with store:=(zaI m.store m.server).1,server:=(zaI m.store m.server).2.1 },0) else ({ m with store:=(zaI m.store m.server).1,server:=(zaI m.store m.server).2.1 },0)):=fun hu=>by
  unfold doM
  rw [if_neg (by decide),if_pos rfl,if_neg (fun x=>x hu)]
 by_cases hu:m.up=true
 case neg =>
  refine .inl ⟨?_,.inl (by simpa using hu)⟩
  unfold doM
  rw [if_neg (by decide),if_pos rfl,if_pos hu]
 replace hdo:=hdo hu
 cases bz with
 | some i =>
  have hbusy:m.server.busy=true:=h.busy
  obtain ⟨hi,w2,w3,w4,w5⟩:=h.work i rfl
  obtain ⟨c,hc⟩:∃ c,m.clients[i]?=some c:=⟨_,List.getElem?_eq_getElem (by rw [h.nc]; exact hi)⟩
  have ci:=h.clients i c hc
  have hph:i ∉ ks/\c.box=[]:=by
   cases ci.phase with
   | rest a b=>exact absurd rfl b
   | wait a b=>exact absurd rfl b
   | work a b d e f g k=>exact ⟨a,f⟩
   | hear a b=>exact absurd rfl b
   | lost a b=>exact absurd rfl b
  cases hp:m.server.plan with
  | cons q rest =>
   rw [zf1 hbusy hp] at hdo
   rw [if_neg (by simp),if_neg (by simp)] at hdo
   exact .inr (.inl ⟨i,q,rest,_,rfl,rfl,by rw [hdo]⟩)
  | nil =>
   rw [zfp hbusy hp] at hdo
   have hcl:m.server.now.client=(i:Int):=by rw [w2]; rfl
   have hne:zbF ⟨m.server.now.client,m.server.now.token,m.server.says⟩≠[]:=by simp [zbF]
   have hto:((zbF ⟨m.server.now.client,m.server.now.token,m.server.says⟩).getD 1 0).toNat=i:=by
    have:=zhg (a:=⟨m.server.now.client,m.server.now.token,m.server.says⟩) (by show 0<=m.server.now.client; rw [hcl]; omega) (by show m.server.now.client < 3; rw [hcl]; omega)
    rw [hcl] at this ⊢
    have this2:(((zbF ⟨(i:Int),m.server.now.token,m.server.says⟩).getD 1 0).toNat:Int)=(i:Int):=this
    omega
   have hgd:m.clients.getD i (zbO [])=c:=by rw [List.getD_eq_getElem?_getD,hc]; rfl
   have hcome:zcE c (zbF ⟨m.server.now.client,m.server.now.token,m.server.says⟩)={ c with box:=[zbF ⟨m.server.now.client,m.server.now.token,m.server.says⟩] }:=by
    unfold zcE
    rw [hph.2]
    rfl
   simp only [] at hdo
   rw [if_neg (by simp),if_pos hne,hto,if_pos (by rw [h.nc]; exact hi),hgd,hcome] at hdo
   exact .inr (.inr (.inl ⟨i,c,_,_,rfl,rfl,hc,hph.1,by rw [hdo]⟩))
 | none =>
  have hbusy:m.server.busy=false:=h.busy
  cases ks with
  | nil =>
   rw [zgM hbusy (by rw [h.box]; rfl)] at hdo
   rw [if_pos (by simp)] at hdo
   exact .inl ⟨by rw [hdo],.inr ⟨rfl,rfl⟩⟩
  | cons k ks =>
   have hk:k < l.length:=h.ksl k (by simp)
   obtain ⟨c,hc⟩:∃ c,m.clients[k]?=some c:=⟨_,List.getElem?_eq_getElem (by rw [h.nc]; exact hk)⟩
   have ci:=h.clients k c hc
   have hph:c.box=[]/\c.got.length < (l.getD k []).length:=by
    cases ci.phase with
    | rest a=>exact absurd (by simp) a
    | wait a b d e f g=>exact ⟨f,g⟩
    | work a=>exact absurd (by simp) a
    | hear a=>exact absurd (by simp) a
    | lost a=>exact absurd (by simp) a
   have hbox:m.server.box=zbv (zax l k c.got.length)::ks.map (fun k=>zbv (zax l k (za6 m.clients k))):=by
    rw [h.box,List.map_cons,zbs hc]
   have hstep:=ci.step
   have hlast:=ci.last
   have hS:=serve_take (s:=m.store) hbusy hbox (zgi hl hk hph.2)
   have hrc:(zax l k c.got.length).client=(k:Int):=rfl
   have hrt:(zax l k c.got.length).token=(c.got.length:Int):=rfl
   rw [hrc,hrt,hlast] at hS
   by_cases hd:(zaA m.store.past k).length=c.got.length+1
   ·rw [if_neg (show ¬ (zaA m.store.past k).length=0 by omega),hd,Nat.add_sub_cancel] at hS
    rw [if_pos (by exact ⟨rfl,Int.le_refl _⟩),if_pos (by rfl)] at hS
    have hne:zbF ⟨(k:Int),(c.got.length:Int),(told m.store.past k).getD c.got.length ⟨0,0⟩⟩≠[]:=by simp [zbF]
    have hto:((zbF ⟨(k:Int),(c.got.length:Int),(told m.store.past k).getD c.got.length ⟨0,0⟩⟩).getD 1 0).toNat=k:=by
     have:=zhg (a:=⟨(k:Int),(c.got.length:Int),(told m.store.past k).getD c.got.length ⟨0,0⟩⟩) (by show (0:Int)<=k; omega) (by show (k:Int) < 3; omega)
     have this2:(((zbF ⟨(k:Int),(c.got.length:Int),(told m.store.past k).getD c.got.length ⟨0,0⟩⟩).getD 1 0).toNat:Int)=(k:Int):=this
     omega
    have hgd:m.clients.getD k (zbO [])=c:=by rw [List.getD_eq_getElem?_getD,hc]; rfl
    have hcome:zcE c (zbF ⟨(k:Int),(c.got.length:Int),(told m.store.past k).getD c.got.length ⟨0,0⟩⟩)={ c with box:=[zbF ⟨(k:Int),(c.got.length:Int),(told m.store.past k).getD c.got.length ⟨0,0⟩⟩] }:=by
     unfold zcE
     rw [hph.1]
     rfl
    rw [hS] at hdo
    simp only [] at hdo
    rw [if_neg (by simp),if_pos hne,hto,if_pos (by rw [h.nc]; exact hk),hgd,hcome] at hdo
    exact .inr (.inr (.inr (.inl ⟨k,ks,c,_,rfl,rfl,hc,by rw [hdo]⟩)))
   ·have hd0:(zaA m.store.past k).length=c.got.length:=by omega
    have hnot:¬ ((if (zaA m.store.past k).length=0 then (zeroAn,false) else (⟨k,((zaA m.store.past k).length - 1:Nat),(told m.store.past k).getD ((zaA m.store.past k).length - 1) ⟨0,0⟩⟩,true)).2=true /\
      (c.got.length:Int)<=(if (zaA m.store.past k).length=0 then (zeroAn,false) else ((⟨k,((zaA m.store.past k).length - 1:Nat),(told m.store.past k).getD ((zaA m.store.past k).length - 1) ⟨0,0⟩⟩:An),true)).1.token):=by
     by_cases hz:(zaA m.store.past k).length=0
     ·rw [if_pos hz]; simp
     ·rw [if_neg hz]
      simp only [true_and]
      omega
    rw [if_neg hnot] at hS
    rw [hS] at hdo
    simp only [] at hdo
    rw [if_neg (by simp),if_neg (by simp)] at hdo
    exact .inr (.inr (.inr (.inr ⟨k,ks,zax l k c.got.length,_,_,rfl,rfl,rfl,zjb _ _,by rw [hdo]⟩)))
open Go Go.RowKit

def sumTo (f:Nat->Nat):Nat->Nat
 | 0=>0
 | n+1=>sumTo f n+f n
theorem zju {f g:Nat->Nat} {n:Nat} (h:∀ i,i < n->f i<=g i):sumTo f n<=sumTo g n:=by
 induction n with
 | zero=>exact Nat.le_refl _
 | succ n ih =>
  have:=ih (fun i hi=>h i (by omega))
  have:=h n (by omega)
  simp only [sumTo]; omega
theorem ze8 {f g:Nat->Nat} {n i:Nat} (h:∀ j,j < n->j≠i->f j=g j) (hi:i < n) (hlt:f i < g i):sumTo f n < sumTo g n:=by
 induction n with
 | zero=>omega
 | succ n ih =>
  simp only [sumTo]
  by_cases e:i=n
  ·subst e
   have:sumTo f i<=sumTo g i:=zju (fun j hj=>by rw [h j (by omega) (by omega)]; exact Nat.le_refl _)
   omega
  ·have:=ih (fun j hj=>h j (by omega)) (by omega)
   rw [h n (by omega) (fun x=>e x.symm)]
   omega
theorem zrZ {f g:Nat->Nat} {n:Nat} (h:∀ i,i < n->f i=g i):sumTo f n=sumTo g n :=
 Nat.le_antisymm (zju fun i hi=>by rw [h i hi]; exact Nat.le_refl _) (zju fun i hi=>by rw [h i hi]; exact Nat.le_refl _)
theorem zgP {f:Nat->Nat} {n b:Nat} (h:∀ i,i < n->f i<=b):sumTo f n<=n * b:=by
 induction n with
 | zero=>simp [sumTo]
 | succ n ih =>
  have:=ih (fun i hi=>h i (by omega))
  have:=h n (by omega)
  simp only [sumTo,Nat.succ_mul]; omega

def zjM (busyWith:Bool) (plan:Nat) (waits:Bool) (has:Bool):Nat:=if busyWith then 5 - plan else if waits then 1 else if has then 6 else 0
def zbi (m:Mc) (i:Nat):Bool:=m.server.busy && decide (m.server.now.client=(i:Int))
def zch (m:Mc) (i:Nat):Bool:=m.server.box.any fun b=>(b.getD 1 0).toNat == i
def ziu (m:Mc) (i:Nat):Bool:=!(m.clients.getD i (zbO [])).box.isEmpty
def zes (l:List (List Cl)) (m:Mc) (i:Nat):Nat:=8 * ((l.getD i []).length - za6 m.clients i) - zjM (zbi m i) m.server.plan.length (zch m i) (ziu m i)
def zhu (l:List (List Cl)) (m:Mc):Nat:=sumTo (zes l m) l.length

theorem zle {l:List (List Cl)} {k t:Nat} (h:k < 3):((zbv (zax l k t)).getD 1 0).toNat=k:=by
 have h1:((byteOf (k:Int)).toNat:Int)=k:=zbA (by omega) (by omega)
 have h2:((zbv (zax l k t)).getD 1 0)=byteOf (k:Int):=rfl
 rw [h2]
 omega
theorem ziD {l:List (List Cl)} {g:Nat->Nat} {ks:List Nat} (hk:∀ k ∈ ks,k < 3) (i:Nat):((ks.map fun k=>zbv (zax l k (g k))).any fun b=>(b.getD 1 0).toNat == i)=decide (i ∈ ks):=by
 induction ks with
 | nil=>simp
 | cons k ks ih =>
  rw [List.map_cons,List.any_cons,ih (fun x hx=>hk x (by simp [hx])),zle (hk k (by simp))]
  by_cases e:k=i
  ·simp [e]
  ·have e2:¬ i=k:=fun x=>e x.symm
   simp [e,e2]

section
variable {l:List (List Cl)} {m:Mc} {ks:List Nat} {bz:Option Nat}

theorem zcl (h:MInv l m ks bz) (i:Nat):zbi m i=decide (bz=some i):=by
 unfold zbi
 cases bz with
 | none =>
  have:m.server.busy=false:=h.busy
  simp [this]
 | some j =>
  have hb:m.server.busy=true:=h.busy
  have hn:=(h.work j rfl).2.1
  have hc:m.server.now.client=(j:Int):=by rw [hn]; rfl
  rw [hb,hc]
  by_cases e:j=i
  ·simp [e]
  ·have:¬ (j:Int)=(i:Int):=by omega
   simp [e,this]
theorem zc0 (hl:zaG l) (h:MInv l m ks bz) (i:Nat):zch m i=decide (i ∈ ks):=by
 unfold zch
 rw [h.box]
 exact ziD (fun k hk=>by have:=h.ksl k hk; have:=hl.1; omega) i
theorem zjw {i:Nat} {c:Cn} (hc:m.clients[i]?=some c):ziu m i=!c.box.isEmpty:=by
 unfold ziu
 rw [List.getD_eq_getElem?_getD,hc]
 rfl

theorem zed {cl:List Cn} {i k:Nat} {c:Cn} (h:k≠i):(cl.set i c).getD k (zbO [])=cl.getD k (zbO []):=by
 rw [List.getD_eq_getElem?_getD,List.getD_eq_getElem?_getD,List.getElem?_set_ne (fun e=>h e.symm)]
theorem zfh {cl:List Cn} {i:Nat} {c d:Cn} (h:cl[i]?=some c):(cl.set i d)[i]?=some d:=List.getElem?_set_self (List.getElem?_eq_some_iff.1 h).1

theorem znX (hl:zaG l) (h:MInv l m ks bz) {i:Nat} {c:Cn} (hc:m.clients[i]?=some c) :
  ((doM m 1 (i:Int)).1=m/\(c.box=[]/\(l.getD i []).length<=c.got.length∨i ∈ ks∨bz=some i∨m.up=false))∨zhu l (doM m 1 (i:Int)).1 < zhu l m:=by
 have hil:i < l.length:=by rw [<- h.nc]; exact (List.getElem?_eq_some_iff.1 hc).1
 have h3:=hl.1
 rcases zlB hl h hc with x | ⟨r,e,hb,hk,hz,hlt⟩ | ⟨e,hb,hk,hz,hlt⟩
 ·exact .inl x
 ·refine .inr (ze8 (i:=i) (fun j _ hj=>?_) hil ?_)
  ·rw [e]
   unfold zes zbi zch ziu
   simp only []
   rw [ze3 hj,zed hj]
  ·have hw:=zcl h i
   have hv:=zc0 hl h i
   have hs:=zjw hc
   rw [e]
   unfold zes
   rw [show zbi { m with clients:=m.clients.set i ⟨c.calls,c.at_+1,false,c.gen,[],c.got++[r]⟩ } i=zbi m i from rfl,show zch { m with clients:=m.clients.set i ⟨c.calls,c.at_+1,false,c.gen,[],c.got++[r]⟩ } i=zch m i from rfl,hw,hv,hs,
    zjw (m:={ m with clients:=m.clients.set i ⟨c.calls,c.at_+1,false,c.gen,[],c.got++[r]⟩ }) (zfh hc)]
   rw [show za6 ({ m with clients:=m.clients.set i ⟨c.calls,c.at_+1,false,c.gen,[],c.got++[r]⟩ }:Mc).clients i=c.got.length+1 by
    rw [zbs (zfh hc)]; simp,zbs hc,decide_eq_false hz,decide_eq_false hk]
   have hbe:c.box.isEmpty=false:=by cases hbx:c.box with | nil=>exact absurd hbx hb | cons _ _=>rfl
   rw [hbe]
   generalize (l.getD i []).length=L at *
   simp [zjM]
   omega
 ·refine .inr (ze8 (i:=i) (fun j _ hj=>?_) hil ?_)
  ·rw [e]
   unfold zes zbi zch ziu
   simp only [List.any_append,List.any_cons,List.any_nil,Bool.or_false]
   rw [ze3 hj,zed hj,zle (show i < 3 by omega)]
   have:(i == j)=false:=by simpa using fun x=>hj x.symm
   rw [this,Bool.or_false]
  ·have hw:=zcl h i
   have hs:=zjw hc
   rw [e]
   unfold zes
   rw [show zbi { m with server:={ m.server with box:=m.server.box++[zbv (zax l i c.got.length)] },clients:=m.clients.set i ⟨c.calls,c.at_,true,m.server.gen,[],c.got⟩ } i=zbi m i from rfl,hw,hs,zc0 hl h i,zbs hc]
   rw [show za6 ({ m with server:={ m.server with box:=m.server.box++[zbv (zax l i c.got.length)] },clients:=m.clients.set i ⟨c.calls,c.at_,true,m.server.gen,[],c.got⟩ }:Mc).clients i=c.got.length by rw [zbs (zfh hc)],decide_eq_false hz,decide_eq_false hk]
   rw [show zch { m with server:={ m.server with box:=m.server.box++[zbv (zax l i c.got.length)] },clients:=m.clients.set i ⟨c.calls,c.at_,true,m.server.gen,[],c.got⟩ } i=true by
    unfold zch
    simp only [List.any_append,List.any_cons,List.any_nil,Bool.or_false]
    rw [zle (show i < 3 by omega)]
    simp,hb]
   generalize (l.getD i []).length=L at *
   simp [zjM]
   omega

theorem zot (hl:zaG l) (h:MInv l m ks bz) (n:Int) :
  ((doM m 2 n).1=m/\(m.up=false∨ks=[]/\bz=none))∨zhu l (doM m 2 n).1 < zhu l m:=by
 have h3:=hl.1
 have hk3:∀ k ∈ ks,k < 3:=fun k hk=>by have:=h.ksl k hk; omega
 rcases zlj hl h n with x | ⟨i,q,rest,s,hb,hp,e⟩ | ⟨i,c,b,s,hb,hp,hc,hk,e⟩ | ⟨k,ks',c,b,hb,hks,hc,e⟩ | ⟨k,ks',r,p,s,hb,hks,hr,hpl,e⟩
 ·exact .inl x
 ·obtain ⟨hi,-,-,-,w5⟩:=h.work i hb
  obtain ⟨c,hc⟩:∃ c,m.clients[i]?=some c:=⟨_,List.getElem?_eq_getElem (by rw [h.nc]; exact hi)⟩
  have hlt:c.got.length < (l.getD i []).length:=by
   cases (h.clients i c hc).phase with
   | rest _ y=>exact absurd hb y
   | wait _ y=>exact absurd hb y
   | work _ _ _ _ _ g=>exact g
   | hear _ y=>exact absurd hb y
   | lost _ y=>exact absurd hb y
  refine .inr (ze8 (i:=i) (fun j _ hj=>?_) hi ?_)
  ·rw [e]
   have hw:zbi m j=false:=by rw [zcl h j,hb]; simpa using fun x=>hj x.symm
   unfold zes
   rw [show zbi { m with store:=s,server:={ m.server with plan:=rest } } j=zbi m j from rfl,hw]
   rfl
  ·rw [e]
   have hw:zbi m i=true:=by rw [zcl h i,hb]; simp
   unfold zes
   rw [show zbi { m with store:=s,server:={ m.server with plan:=rest } } i=zbi m i from rfl,hw]
   rw [hp] at w5 ⊢
   rw [show za6 ({ m with store:=s,server:={ m.server with plan:=rest } }:Mc).clients i=za6 m.clients i from rfl,zbs hc]
   generalize (l.getD i []).length=L at *
   simp [zjM] at w5 ⊢
   omega
 ·obtain ⟨hi,-,-,-,w5⟩:=h.work i hb
  have hlt:c.got.length < (l.getD i []).length:=by
   cases (h.clients i c hc).phase with
   | rest _ y=>exact absurd hb y
   | wait _ y=>exact absurd hb y
   | work _ _ _ _ _ g=>exact g
   | hear _ y=>exact absurd hb y
   | lost _ y=>exact absurd hb y
  refine .inr (ze8 (i:=i) (fun j _ hj=>?_) hi ?_)
  ·rw [e]
   have hw:zbi m j=false:=by rw [zcl h j,hb]; simpa using fun x=>hj x.symm
   unfold zes
   rw [hw,show zbi { m with store:=s,server:=zbQ m.server.gen m.server.box,clients:=m.clients.set i { c with box:=[b] } } j=false from rfl]
   rw [show za6 ({ m with store:=s,server:=zbQ m.server.gen m.server.box,clients:=m.clients.set i { c with box:=[b] } }:Mc).clients j=za6 m.clients j from ze3 hj]
   rw [show ziu { m with store:=s,server:=zbQ m.server.gen m.server.box,clients:=m.clients.set i { c with box:=[b] } } j=ziu m j by unfold ziu; simp only []; rw [zed hj]]
   rfl
  ·rw [e]
   have hw:zbi m i=true:=by rw [zcl h i,hb]; simp
   unfold zes
   rw [hw,show zbi { m with store:=s,server:=zbQ m.server.gen m.server.box,clients:=m.clients.set i { c with box:=[b] } } i=false from rfl]
   rw [show zch { m with store:=s,server:=zbQ m.server.gen m.server.box,clients:=m.clients.set i { c with box:=[b] } } i=zch m i from rfl,zc0 hl h i,decide_eq_false hk]
   rw [zjw (m:={ m with store:=s,server:=zbQ m.server.gen m.server.box,clients:=m.clients.set i { c with box:=[b] } }) (zfh hc)]
   rw [show za6 ({ m with store:=s,server:=zbQ m.server.gen m.server.box,clients:=m.clients.set i { c with box:=[b] } }:Mc).clients i=c.got.length by rw [zbs (zfh hc)],zbs hc,hp]
   generalize (l.getD i []).length=L at *
   simp [zjM]
   omega
 ·have hk:k < l.length:=h.ksl k (by rw [hks]; simp)
  have hlt:c.got.length < (l.getD k []).length:=by
   have hin:k ∈ ks:=by rw [hks]; simp
   cases (h.clients k c hc).phase with
   | rest y=>exact absurd hin y
   | wait _ _ _ _ _ g=>exact g
   | work y=>exact absurd hin y
   | hear y=>exact absurd hin y
   | lost y=>exact absurd hin y
  have hnd:=h.nodup
  rw [hks] at hnd
  have hnk:=(List.nodup_cons.1 hnd).1
  have hk3':∀ x ∈ ks',x < 3:=fun x hx=>hk3 x (by rw [hks]; simp [hx])
  have hbusy:m.server.busy=false:=by have:=h.busy; rw [hb] at this; exact this
  refine .inr (ze8 (i:=k) (fun j _ hj=>?_) hk ?_)
  ·rw [e]
   unfold zes
   rw [show zbi { m with server:={ m.server with box:=ks'.map (fun k=>zbv (zax l k (za6 m.clients k))) },clients:=m.clients.set k { c with box:=[b] } } j=zbi m j from rfl]
   rw [show za6 ({ m with server:={ m.server with box:=ks'.map (fun k=>zbv (zax l k (za6 m.clients k))) },clients:=m.clients.set k { c with box:=[b] } }:Mc).clients j=za6 m.clients j from ze3 hj]
   rw [show ziu { m with server:={ m.server with box:=ks'.map (fun k=>zbv (zax l k (za6 m.clients k))) },clients:=m.clients.set k { c with box:=[b] } } j=ziu m j by unfold ziu; simp only []; rw [zed hj]]
   rw [show zch { m with server:={ m.server with box:=ks'.map (fun k=>zbv (zax l k (za6 m.clients k))) },clients:=m.clients.set k { c with box:=[b] } } j=zch m j by
    rw [zc0 hl h j,hks]
    unfold zch
    simp only []
    rw [ziD hk3']
    simp [hj]]
  ·rw [e]
   have hw:zbi m k=false:=by rw [zcl h k,hb]; simp
   unfold zes
   rw [show zbi { m with server:={ m.server with box:=ks'.map (fun k=>zbv (zax l k (za6 m.clients k))) },clients:=m.clients.set k { c with box:=[b] } } k=zbi m k from rfl,hw,zc0 hl h k]
   rw [show zch { m with server:={ m.server with box:=ks'.map (fun k=>zbv (zax l k (za6 m.clients k))) },clients:=m.clients.set k { c with box:=[b] } } k=false by
    unfold zch
    simp only []
    rw [ziD hk3']
    simp [hnk]]
   rw [zjw (m:={ m with server:={ m.server with box:=ks'.map (fun k=>zbv (zax l k (za6 m.clients k))) },clients:=m.clients.set k { c with box:=[b] } }) (zfh hc)]
   rw [show za6 ({ m with server:={ m.server with box:=ks'.map (fun k=>zbv (zax l k (za6 m.clients k))) },clients:=m.clients.set k { c with box:=[b] } }:Mc).clients k=c.got.length by rw [zbs (zfh hc)],zbs hc,hks]
   generalize (l.getD k []).length=L at *
   simp [zjM]
   omega
 ·have hk:k < l.length:=h.ksl k (by rw [hks]; simp)
  obtain ⟨c,hc⟩:∃ c,m.clients[k]?=some c:=⟨_,List.getElem?_eq_getElem (by rw [h.nc]; exact hk)⟩
  have hlt:c.got.length < (l.getD k []).length:=by
   have hin:k ∈ ks:=by rw [hks]; simp
   cases (h.clients k c hc).phase with
   | rest y=>exact absurd hin y
   | wait _ _ _ _ _ g=>exact g
   | work y=>exact absurd hin y
   | hear y=>exact absurd hin y
   | lost y=>exact absurd hin y
  have hk3':∀ x ∈ ks',x < 3:=fun x hx=>hk3 x (by rw [hks]; simp [hx])
  refine .inr (ze8 (i:=k) (fun j _ hj=>?_) hk ?_)
  ·rw [e]
   have hw:zbi m j=false:=by rw [zcl h j,hb]; simp
   unfold zes
   rw [hw,show zbi { m with server:={ m.server with box:=ks'.map (fun k=>zbv (zax l k (za6 m.clients k))),busy:=true,now:=r,plan:=p,says:=s } } j=false by
    unfold zbi
    simp only []
    rw [hr]
    simp
    omega]
   rw [show zch { m with server:={ m.server with box:=ks'.map (fun k=>zbv (zax l k (za6 m.clients k))),busy:=true,now:=r,plan:=p,says:=s } } j=zch m j by
    rw [zc0 hl h j,hks]
    unfold zch
    simp only []
    rw [ziD hk3']
    simp [hj]]
   rfl
  ·rw [e]
   have hw:zbi m k=false:=by rw [zcl h k,hb]; simp
   unfold zes
   rw [hw,zc0 hl h k,show zbi { m with server:={ m.server with box:=ks'.map (fun k=>zbv (zax l k (za6 m.clients k))),busy:=true,now:=r,plan:=p,says:=s } } k=true by
    unfold zbi
    simp only []
    rw [hr]
    simp]
   rw [show za6 ({ m with server:={ m.server with box:=ks'.map (fun k=>zbv (zax l k (za6 m.clients k))),busy:=true,now:=r,plan:=p,says:=s } }:Mc).clients k=za6 m.clients k from rfl,zbs hc,hks]
   generalize (l.getD k []).length=L at *
   simp [zjM]
   omega
end
open Go Go.RowKit

section
variable {l:List (List Cl)} {m:Mc} {ks:List Nat} {bz:Option Nat}

theorem zrf (h:MInv l m ks bz):zhu l (zbP m)=zhu l m:=by
 unfold zbP
 by_cases hu:m.up=true
 ·rw [if_pos hu]
 rw [if_neg hu]
 obtain ⟨rfl,rfl,-,-⟩:=h.down (by simpa using hu)
 by_cases hp:1 < m.pause
 ·rw [if_pos hp]; rfl
 rw [if_neg hp]
 have hs:=h.idle rfl
 have hb:m.server.box=[]:=h.box
 rw [hb] at hs
 refine zrZ fun i _=>?_
 unfold zes zbi zch ziu
 rw [hs]
 rfl

theorem zqT (n:Int) (m:Mc):(doM m 1 n).1.up=m.up/\(doM m 1 n).1.pause=m.pause/\(doM m 1 n).1.falls=m.falls/\(doM m 1 n).1.clients.length=m.clients.length:=by
 unfold doM
 rw [if_pos rfl]
 split
 ·exact ⟨rfl,rfl,rfl,rfl⟩
 ·simp only []
  split
  ·exact ⟨rfl,rfl,rfl,rfl⟩
  ·split
   ·split
    ·exact ⟨rfl,rfl,rfl,rfl⟩
    ·exact ⟨rfl,rfl,rfl,by simp⟩
   ·exact ⟨rfl,rfl,rfl,by simp⟩
theorem zqX (n:Int) (m:Mc):(doM m 2 n).1.up=m.up/\(doM m 2 n).1.pause=m.pause/\(doM m 2 n).1.falls=m.falls/\(doM m 2 n).1.clients.length=m.clients.length:=by
 unfold doM
 rw [if_neg (by decide),if_pos rfl]
 split
 ·exact ⟨rfl,rfl,rfl,rfl⟩
 ·simp only []
  split
  ·exact ⟨rfl,rfl,rfl,rfl⟩
  ·split
   ·split
    ·exact ⟨rfl,rfl,rfl,by simp⟩
    ·exact ⟨rfl,rfl,rfl,rfl⟩
   ·exact ⟨rfl,rfl,rfl,rfl⟩

def zsW (l:List (List Cl)) (m:Mc) (ks:List Nat) (bz:Option Nat) (i:Nat):Prop :=
 ∀ c,m.clients[i]?=some c->c.box=[]/\(l.getD i []).length<=c.got.length∨i ∈ ks∨bz=some i∨m.up=false

def zcw (is:List Nat) (m:Mc):Mc:=is.foldl (fun m (n:Nat)=>(doM m 1 (n:Int)).1) m

theorem zie (hl:zaG l) (is:List Nat) (his:∀ i ∈ is,i < l.length):∀ {m:Mc} {ks:List Nat} {bz:Option Nat},MInv l m ks bz ->
  (∃ ks' bz',MInv l (zcw is m) ks' bz')/\(zcw is m).up=m.up/\(zcw is m).pause=m.pause/\(zcw is m).clients.length=m.clients.length /\
  ((zcw is m=m/\∀ i ∈ is,zsW l m ks bz i)∨zhu l (zcw is m) < zhu l m):=by
 induction is with
 | nil=>intro m ks bz h; exact ⟨⟨ks,bz,h⟩,rfl,rfl,rfl,.inl ⟨rfl,fun i hi=>by cases hi⟩⟩
 | cons i is ih =>
  intro m ks bz h
  have hi:i < l.length:=his i (by simp)
  obtain ⟨c,hc⟩:∃ c,m.clients[i]?=some c:=⟨_,List.getElem?_eq_getElem (by rw [h.nc]; exact hi)⟩
  obtain ⟨ks1,bz1,h1⟩:=zjo hl h (i:Int)
  have hup:=zqT (i:Int) m
  have hstep:zcw (i::is) m=zcw is (doM m 1 (i:Int)).1:=rfl
  have his':∀ j ∈ is,j < l.length:=fun j hj=>his j (by simp [hj])
  rcases znX hl h hc with ⟨e,hbl⟩ | hlt
  ·rw [hstep,e]
   obtain ⟨a1,a2,a3,a4,a5⟩:=ih his' h
   refine ⟨a1,a2,a3,a4,?_⟩
   rcases a5 with ⟨b1,b2⟩ | b
   ·refine .inl ⟨b1,fun j hj=>?_⟩
    rcases List.mem_cons.1 hj with rfl | hj
    ·intro d hd
     obtain rfl:c=d:=by rw [hc] at hd; exact Option.some.inj hd
     exact hbl
    ·exact b2 j hj
   ·exact .inr b
  ·rw [hstep]
   obtain ⟨a1,a2,a3,a4,a5⟩:=ih his' h1
   refine ⟨a1,by rw [a2,hup.1],by rw [a3,hup.2.1],by rw [a4,hup.2.2.2],.inr ?_⟩
   rcases a5 with ⟨b1,_⟩ | b
   ·rw [b1]; exact hlt
   ·omega

def zdE (m:Mc):Bool:=m.clients.all fun c=>decide ((c.calls.length:Int)<=c.at_)
def zqF (l:List (List Cl)) (m:Mc):Nat:=zhu l m+m.pause.toNat

theorem zpM (hl:zaG l) (h:MInv l m ks bz):∃ ks' bz',MInv l (roundM m) ks' bz':=by
 obtain ⟨ks1,bz1,h1⟩:=zhp h
 obtain ⟨⟨ks2,bz2,h2⟩,-,-,-,-⟩:=zie hl (List.range (zbP m).clients.length) (fun i hi=>by rw [List.mem_range,h1.nc] at hi; exact hi) h1
 exact zjK hl h2 0

theorem zkU (hl:zaG l) (h:MInv l m ks bz) (hn:zdE m=false):zqF l (roundM m) < zqF l m:=by
 obtain ⟨ks1,bz1,h1⟩:=zhp h
 have hphi:=zrf h
 obtain ⟨⟨ks2,bz2,h2⟩,u2,p2,n2,r2⟩:=zie hl (List.range (zbP m).clients.length) (fun i hi=>by rw [List.mem_range,h1.nc] at hi; exact hi) h1
 have hr:roundM m=(doM (zcw (List.range (zbP m).clients.length) (zbP m)) 2 0).1:=rfl
 have hs:=zot hl h2 0
 have hsu:=zqX 0 (zcw (List.range (zbP m).clients.length) (zbP m))
 have hle:zhu l (zcw (List.range (zbP m).clients.length) (zbP m))<=zhu l m:=by
  rcases r2 with ⟨e,_⟩ | hlt
  ·rw [e,hphi]; exact Nat.le_refl _
  ·omega
 have hle2:zhu l (roundM m)<=zhu l (zcw (List.range (zbP m).clients.length) (zbP m)):=by
  rw [hr]
  rcases hs with ⟨e,_⟩ | hlt
  ·rw [e]; exact Nat.le_refl _
  ·omega
 have hpz:(roundM m).pause=(zbP m).pause:=by rw [hr,hsu.2.1,p2]
 unfold zqF
 rw [hpz]
 by_cases hu:m.up=true
 ·have ht:zbP m=m:=by unfold zbP; rw [if_pos hu]
  have hp0:=h.upp hu
  rw [ht] at r2 hpz hr hs ⊢
  rw [ht] at h2 hle hle2 h1
  rcases r2 with ⟨e,hbl⟩ | hlt
  ·rw [e] at hs hr
   rcases hs with ⟨_,hx⟩ | hlt
   ·exfalso
    rcases hx with hx | ⟨rfl,rfl⟩
    ·rw [hu] at hx; cases hx
    ·-- nothing is in the server's hands: all are idle
     rw [e] at h2
     have hid:zdE m=true:=by
      unfold zdE
      rw [List.all_eq_true]
      intro c hc
      obtain ⟨i,hi,rfl⟩:=List.mem_iff_getElem.1 hc
      have hci:=List.getElem?_eq_getElem hi
      have ci:=h.clients i _ hci
      have hb:=hbl i (by rw [List.mem_range]; exact hi) _ hci
      have key:(l.getD i []).length<=m.clients[i].got.length:=by
       rcases hb with hb | hb | hb | hb
       ·exact hb.2
       ·exfalso
        have a1:=zc0 hl h1 i
        rw [zc0 hl h2 i,decide_eq_true hb] at a1
        simp at a1
       ·exfalso
        have a1:=zcl h1 i
        rw [zcl h2 i,decide_eq_true hb] at a1
        simp at a1
       ·rw [hu] at hb; cases hb
      rw [decide_eq_true_eq,ci.calls,ci.at_]
      omega
     rw [hid] at hn
     cases hn
   ·rw [hr]; omega
  ·omega
 ·have hd:=h.down (by simpa using hu)
  have hpt:(zbP m).pause.toNat < m.pause.toNat:=by
   unfold zbP
   rw [if_neg hu]
   by_cases hp:1 < m.pause
   ·rw [if_pos hp]; show (m.pause - 1).toNat < _; omega
   ·rw [if_neg hp]; show (0:Int).toNat < _; omega
  omega

def zba:Nat->Mc->Mc×Nat
 | 0,m=>(m,0)
 | n+1,m=>if zdE m then (m,0) else ((zba n (roundM m)).1,(zba n (roundM m)).2+1)
theorem zii (hl:zaG l):∀ (n:Nat) {m:Mc} {ks:List Nat} {bz:Option Nat},MInv l m ks bz->zqF l m<=n->zdE (zba n m).1=true/\(zba n m).2<=n/\∃ ks' bz',MInv l (zba n m).1 ks' bz'
 | 0,m,ks,bz,h,hp=>by
  refine ⟨?_,Nat.le_refl _,ks,bz,h⟩
  show zdE m=true
  cases hi:zdE m with
  | true=>rfl
  | false=>have:=zkU hl h hi; omega
 | n+1,m,ks,bz,h,hp=>by
  unfold zba
  cases hi:zdE m with
  | true=>exact ⟨hi,Nat.zero_le _,ks,bz,h⟩
  | false =>
   have hlt:=zkU hl h hi
   obtain ⟨ks1,bz1,h1⟩:=zpM hl h
   obtain ⟨a,b,c⟩:=zii hl n h1 (by omega)
   refine ⟨a,?_,c⟩
   show (zba n (roundM m)).2+1<=n+1
   omega
theorem zrX (hl:zaG l) (h:MInv l m ks bz):zqF l m<=195:=by
 have h3:=hl.1
 have hp:m.pause.toNat<=3:=by
  by_cases hu:m.up=true
  ·rw [h.upp hu]; decide
  ·have:=h.down (by simpa using hu); omega
 have hs:zhu l m<=l.length * 64:=zgP fun i hi=>by
  have h8:=(hl.2 _ (zfI (d:=[]) hi)).1
  unfold zes
  omega
 have:l.length * 64<=192:=by omega
 unfold zqF
 omega
theorem zty (hl:zaG l) (h:MInv l m ks bz):zdE (zba 300 m).1=true/\(zba 300 m).2<=300/\∃ ks' bz',MInv l (zba 300 m).1 ks' bz' :=
 zii hl 300 h (by have:=zrX hl h; omega)
theorem zhq (h:MInv l m ks bz) (hi:zdE m=true) {i:Nat} {c:Cn} (hc:m.clients[i]?=some c):c.got.length=(l.getD i []).length/\(zaA m.store.past i).length=(l.getD i []).length/\c.got=told m.store.past i:=by
 have ci:=h.clients i c hc
 have hm:c ∈ m.clients:=List.mem_of_getElem? hc
 unfold zdE at hi
 rw [List.all_eq_true] at hi
 have:=hi c hm
 rw [decide_eq_true_eq,ci.calls,ci.at_] at this
 have h1:=ci.most
 have h2:=ci.step
 have h3:=zdu m.store.past i
 refine ⟨by omega,by omega,?_⟩
 have hg:=ci.got
 rwa [List.take_of_length_le (by omega)] at hg
end
open Go Go.RowKit

theorem zmf (a b:List Rq) (i:Nat):zaA (a++b) i=zaA a i++zaA b i:=List.filter_append ..
theorem mine_cons (r:Rq) (b:List Rq) (i:Nat):zaA (r::b) i=if r.client=(i:Int) then r::zaA b i else zaA b i:=by
 unfold zaA
 rw [List.filter_cons]
 by_cases h:r.client=(i:Int)
 ·simp [h]
 ·simp [h]

section
variable {l:List (List Cl)} {m:Mc} {ks:List Nat} {bz:Option Nat}

theorem zk6 (h:MInv l m ks bz) {i:Nat} (hi:i < l.length):∃ c,m.clients[i]?=some c:=by
 have hi2:i < m.clients.length:=by rw [h.nc]; exact hi
 exact ⟨m.clients[i],List.getElem?_eq_getElem hi2⟩

theorem zsX (h:MInv l m ks bz) {j:Nat} {r:Rq} (hr:m.store.past[j]?=some r) :
  ∃ i:Nat,i < l.length/\r=zax l i (zaA (m.store.past.take j) i).length/\(zaA (m.store.past.take j) i).length < (l.getD i []).length:=by
 obtain ⟨i,t,hi,ht,rfl⟩:=h.past r (List.mem_of_getElem? hr)
 obtain ⟨c,hc⟩:=zk6 h hi
 have ci:=h.clients i c hc
 have hj:j < m.store.past.length:=(List.getElem?_eq_some_iff.1 hr).1
 have hsplit:m.store.past=m.store.past.take j++zax l i t::m.store.past.drop (j+1):=by
  have hx:m.store.past[j]=zax l i t:=(List.getElem?_eq_some_iff.1 hr).2
  have:=List.drop_eq_getElem_cons hj
  rw [hx] at this
  rw [<- this,List.take_append_drop]
 have hm:zaA m.store.past i=zaA (m.store.past.take j) i++zax l i t::zaA (m.store.past.drop (j+1)) i:=by
  conv=>lhs; rw [hsplit]
  rw [zmf,mine_cons,if_pos (show (zax l i t).client=(i:Int) from rfl)]
 have hlen:(zaA (m.store.past.take j) i).length < (zaA m.store.past i).length:=by rw [hm]; simp
 have hk:(zaA m.store.past i)[(zaA (m.store.past.take j) i).length]?=some (zax l i t):=by rw [hm]; simp
 have hk2:(zaA m.store.past i)[(zaA (m.store.past.take j) i).length]?=some (zax l i (zaA (m.store.past.take j) i).length):=by
  have e:=congrArg (fun x=>x[(zaA (m.store.past.take j) i).length]?) ci.done
  simp only [List.getElem?_map,List.getElem?_range hlen,Option.map_some] at e
  exact e
 rw [hk] at hk2
 injection hk2 with hk2
 exact ⟨i,hi,hk2,Nat.lt_of_lt_of_le hlen ci.most⟩

end

/-! What was done stays. -/

structure Grow (m m':Mc):Prop where
 past:∃ s,m'.store.past=m.store.past++s
 len:m'.clients.length=m.clients.length
 got:∀ (i:Nat) (c:Cn),m.clients[i]?=some c->∃ (c':Cn) (t:List Rp),m'.clients[i]?=some c'/\c'.got=c.got++t

theorem Grow.refl (m:Mc):Grow m m:=⟨⟨[],by simp⟩,rfl,fun i c h=>⟨c,[],h,by simp⟩⟩
theorem Grow.trans {a b c:Mc} (h:Grow a b) (k:Grow b c):Grow a c:=by
 refine ⟨?_,k.len.trans h.len,fun i x hx=>?_⟩
 ·obtain ⟨s,hs⟩:=h.past
  obtain ⟨t,ht⟩:=k.past
  exact ⟨s++t,by rw [ht,hs,List.append_assoc]⟩
 ·obtain ⟨y,t,hy,e⟩:=h.got i x hx
  obtain ⟨z,u,hz,f⟩:=k.got i y hy
  exact ⟨z,t++u,hz,by rw [f,e,List.append_assoc]⟩

/-! A machine is whole. -/

/-! Alone it is as one by one. -/

theorem zoz {calls:List Cl} {m:Mc} {ks:List Nat} {bz:Option Nat} (h:MInv [calls] m ks bz):zaA m.store.past 0=m.store.past:=by
 unfold zaA
 rw [List.filter_eq_self]
 intro r hr
 obtain ⟨i,t,hi,-,rfl⟩:=h.past r hr
 have:i=0:=by simpa using hi
 subst this
 simp [zax]

theorem zoi {calls:List Cl} {m:Mc} {ks:List Nat} {bz:Option Nat} (h:MInv [calls] m ks bz):told m.store.past 0=(zdv (m.store.past.map Rq.call)).2.map fun x=>⟨x.1,x.2⟩:=by
 unfold told
 have hall:∀ x ∈ m.store.past.zip (zdv (m.store.past.map Rq.call)).2,decide (x.1.client=((0:Nat):Int))=true:=fun x hx=>by
  have hm:=(List.of_mem_zip hx).1
  obtain ⟨i,t,hi,-,e⟩:=h.past x.1 hm
  have:i=0:=by simpa using hi
  subst this
  rw [e]
  simp [zax]
 rw [List.filter_eq_self.2 hall]
 have hlen:(zdv (m.store.past.map Rq.call)).2.length=m.store.past.length:=by rw [zlD]; simp
 generalize (zdv (m.store.past.map Rq.call)).2=q at *
 clear hall h
 generalize m.store.past=p at *
 induction p generalizing q with
 | nil=>cases q with
  | nil=>rfl
  | cons _ _=>cases hlen
 | cons r p ih=>cases q with
  | nil=>cases hlen
  | cons x q =>
   simp only [List.zip_cons_cons,List.map_cons]
   rw [ih q (by simpa using hlen)]

theorem zuO {calls:List Cl} {m:Mc} {ks:List Nat} {bz:Option Nat} (h:MInv [calls] m ks bz) (hi:zdE m=true) :
  m.clients.length=1/\∀ c,m.clients[0]?=some c->c.got=(zdv calls).2.map (fun x=>⟨x.1,x.2⟩)/\zbg (zav m.store.cells m.store.undo)=(zdv calls).1:=by
 refine ⟨h.nc,fun c hc=>?_⟩
 obtain ⟨-,h2,h3⟩:=zhq h hi hc
 have ci:=h.clients 0 c hc
 have hp:m.store.past.map Rq.call=calls:=by
  rw [<- zoz h,ci.done,h2]
  refine List.ext_getElem (by simp) fun k k1 k2=>?_
  simp [zax,k2]
 refine ⟨by rw [h3,zoi h,hp],by rw [h.nm]; unfold names; rw [hp]⟩

end Go.Mk

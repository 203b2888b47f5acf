/- Texts of the proof, merged: Math13 Math25 Math21 Math22 Math23 Math26 Mem11 Math14. -/
import Derived.Test.YtdmipnnfoolelafGreatKTE
import Derived.Test.YtdmipnnfoolelafGreatKTC

namespace Go.Mk
open Go Go.RowKit

theorem zgJ {s:St} {v:Sv} {q:Int×Int} {rest:List (Int×Int)} (hb:v.busy=true) (hp:v.plan=q::rest):zaz s v=(zau s q,{ v with plan:=rest },[],0):=by
 unfold zaz
 rw [if_pos hb,hp]
theorem zgj {s:St} {v:Sv} (hb:v.busy=true) (hp:v.plan=[]):zaz s v=(zb3 s v.now v.says,zbM v.gen v.box,zb1 ⟨v.now.client,v.now.token,v.says⟩,0):=by
 unfold zaz
 rw [if_pos hb,hp]
theorem zhK {s:St} {v:Sv} (hb:v.busy=false) (hp:v.box=[]):zaz s v=(s,v,[],12):=by
 unfold zaz
 rw [if_neg (by simp [hb]),hp]
theorem serve_take {s:St} {v:Sv} {r:Rq} {rest:List (List UInt8)} (hb:v.busy=false) (hp:v.box=zbA r::rest) (hr:zbJ r=0) :
  zaz s v=if (lastAn s.answers r.client).2=true/\r.token<=(lastAn s.answers r.client).1.token then
   if (lastAn s.answers r.client).1.token=r.token then (s,{ v with box:=rest },zb1 (lastAn s.answers r.client).1,0) else (s,{ v with box:=rest },[],0)
   else (s,{ v with box:=rest,busy:=true,now:=r,plan:=zbq (zbR s.cells) r.call,says:=(zbw (zbR s.cells) r.call).2 },[],0):=by
 unfold zaz
 rw [if_neg (by simp [hb]),hp]
 simp only [zhP hr]
 rw [if_neg (by simp)]
theorem zml (s:St) (q:Int×Int) (rest:List (Int×Int)):zaD (zau s q).cells rest=zaD s.cells (q::rest):=by
 unfold zau
 by_cases h:0<=q.1/\q.1 < (s.cells.length:Int)
 ·rw [if_pos h]; rfl
 ·rw [if_neg h]
  show zaD s.cells rest=zaD (zdD s.cells q) rest
  rw [show zdD s.cells q=s.cells by unfold zdD; rw [if_neg h]]

theorem zh9 {a:An} (h0:0<=a.client) (h1:a.client < 3):(((zb1 a).getD 1 0).toNat:Int)=a.client:=zcq h0 (by omega)

theorem zjJ {l:List (List Cl)} (hl:za8 l) {m:Mc} {ks:List Nat} {bz:Option Nat} (h:MInv l m ks bz) (n:Int):∃ ks' bz',MInv l (doM m 2 n).1 ks' bz':=by
 unfold doM
 rw [if_neg (by decide),if_pos rfl]
 by_cases hu:m.up=true
 case neg=>rw [if_pos hu]; exact ⟨ks,bz,h⟩
 rw [if_neg (fun x=>x hu)]
 have hokn:=zhN hl h.past
 have h3:=hl.1
 cases bz with
 | some i =>
  have hbusy:m.server.busy=true:=h.busy
  obtain ⟨hi,w2,w3,w4,w5⟩:=h.work i rfl
  obtain ⟨c,hc⟩:∃ c,m.clients[i]?=some c:=⟨_,List.getElem?_eq_getElem (by rw [h.nc]; exact hi)⟩
  have ci:=h.clients i c hc
  rw [zb9 hc] at w2
  cases hp:m.server.plan with
  | cons q rest =>
   rw [zgJ hbusy hp]
   simp only []
   rw [if_neg (by simp),if_neg (by simp)]
   refine ⟨ks,some i,?_⟩
   have hbk:=znz m.store q
   have hcells:zaD (zau m.store q).cells (zau m.store q).undo=zaD m.store.cells m.store.undo:=congrArg St.cells hbk
   have hpast:(zau m.store q).past=m.store.past:=by unfold zau; split <;> rfl
   have hansw:(zau m.store q).answers=m.store.answers:=by unfold zau; split <;> rfl
   have hund:∀ x ∈ (zau m.store q).undo,0<=x.1/\x.1<=10:=by
    intro x hx
    unfold zau at hx
    split at hx
    ·rename_i hr
     have hx':x ∈ (q.1,m.store.cells.getD q.1.toNat 0)::m.store.undo:=hx
     rcases List.mem_cons.1 hx' with rfl | hx'
     ·have:=h.cells; simp only []; omega
     ·exact h.undo x hx'
    ·exact h.undo x hx
   exact {
    nc:=h.nc
    nodup:=h.nodup
    ksl:=h.ksl
    box:=h.box
    busy:=h.busy
    idle:=fun x=>by cases x
    work:=fun j hj=>by
     obtain ⟨v1,v2,v3,v4,v5⟩:=h.work j hj
     refine ⟨v1,v2,?_,?_,?_⟩
     ·show m.server.says=(zbw (zd8 (zau m.store q).past) m.server.now.call).2
      rw [hpast]; exact v3
     ·show zaD (zau m.store q).cells rest=zaD (zaD (zau m.store q).cells (zau m.store q).undo) (zbq (zd8 (zau m.store q).past) m.server.now.call)
      rw [zml,hcells,hpast,<- hp]; exact v4
     ·show rest.length<=3
      rw [hp] at v5; simp at v5; omega
    down:=fun x=>absurd x (by simp [hu])
    upp:=h.upp
    clean:=fun _ x=>by cases x
    cells:=by show (zau m.store q).cells.length=11; rw [zlR]; exact h.cells
    right:=by show zeM (zaD (zau m.store q).cells (zau m.store q).undo)=0; rw [hcells]; exact h.right
    nm:=by show zbR (zaD (zau m.store q).cells (zau m.store q).undo)=zd8 (zau m.store q).past; rw [hcells,hpast]; exact h.nm
    undo:=hund
    past:=by show zkd l (zau m.store q).past; rw [hpast]; exact h.past
    falls:=h.falls
    gens:=h.gens
    clients:=fun k d hd=>by
     show CInv l (zau m.store q).past (zau m.store q).answers m.server.gen m.up ks (some i) k d
     rw [hpast,hansw]
     exact h.clients k d hd }
  | nil =>
   rw [zgj hbusy hp]
   have hph:i ∉ ks/\c.sent=true/\c.gen=m.server.gen/\c.box=[]/\c.got.length < (l.getD i []).length/\(zce m.store.past i).length=c.got.length:=by
    cases ci.phase with
    | rest a b=>exact absurd rfl b
    | wait a b=>exact absurd rfl b
    | work a b d e f g k=>exact ⟨a,d,e,f,g,k⟩
    | hear a b=>exact absurd rfl b
    | lost a b=>exact absurd rfl b
   obtain ⟨p1,p2,p3,p4,p5,p6⟩:=hph
   have hcall:=ze2 hl hi p5
   have hcl:m.server.now.client=(i:Int):=by rw [w2]; rfl
   have htk:m.server.now.token=(c.got.length:Int):=by rw [w2]; rfl
   have hne:zb1 ⟨m.server.now.client,m.server.now.token,m.server.says⟩≠[]:=by simp [zb1]
   have hto:((zb1 ⟨m.server.now.client,m.server.now.token,m.server.says⟩).getD 1 0).toNat=i:=by
    have:=zh9 (a:=⟨m.server.now.client,m.server.now.token,m.server.says⟩) (by show 0<=m.server.now.client; rw [hcl]; omega) (by show m.server.now.client < 3; rw [hcl]; omega)
    rw [hcl] at this ⊢
    have this2:(((zb1 ⟨(i:Int),m.server.now.token,m.server.says⟩).getD 1 0).toNat:Int)=(i:Int):=this
    omega
   simp only []
   rw [if_neg (by simp),if_pos hne,hto,if_pos (by rw [h.nc]; exact hi)]
   have hgd:m.clients.getD i (zbO [])=c:=by rw [List.getD_eq_getElem?_getD,hc]; rfl
   rw [hgd]
   have hcome:zcg c (zb1 ⟨m.server.now.client,m.server.now.token,m.server.says⟩)={ c with box:=[zb1 ⟨m.server.now.client,m.server.now.token,m.server.says⟩] }:=by
    unfold zcg
    rw [p4]
    rfl
   rw [hcome]
   refine ⟨ks,none,?_⟩
   -- what cells are now
   have hcells:m.store.cells=zaD (zaD m.store.cells m.store.undo) (zbq (zbR (zaD m.store.cells m.store.undo)) m.server.now.call):=by
    rw [hp] at w4
    rw [h.nm]
    exact w4
   have hpm:=znJ (c:=m.server.now.call) h.right (by rw [w2]; exact hcall)
   have hpm1:zeM m.store.cells=0:=by rw [hcells]; exact hpm.1
   have hpm2:zbR m.store.cells=(zbw (zd8 m.store.past) m.server.now.call).1:=by
    have h2:zbR (zaD (zaD m.store.cells m.store.undo) (zbq (zbR (zaD m.store.cells m.store.undo)) m.server.now.call))=(zbw (zbR (zaD m.store.cells m.store.undo)) m.server.now.call).1:=hpm.2
    rw [<- hcells,h.nm] at h2
    exact h2
   have hmi:zce (m.store.past++[m.server.now]) i=zce m.store.past i++[m.server.now]:=by rw [zk4,if_pos hcl]
   have hti:zcI (m.store.past++[m.server.now]) i=zcI m.store.past i++[m.server.says]:=by rw [ziw,if_pos hcl,<- w3]
   have htl:=zfS m.store.past i
   have hgn:∀ k,zbD (m.clients.set i { c with box:=[zb1 ⟨m.server.now.client,m.server.now.token,m.server.says⟩] }) k=zbD m.clients k:=fun k=>zhW (c':={ c with box:=[zb1 ⟨m.server.now.client,m.server.now.token,m.server.says⟩] }) hc rfl k
   exact {
    nc:=by show (m.clients.set i _).length=_; rw [List.length_set]; exact h.nc
    nodup:=h.nodup
    ksl:=h.ksl
    box:=by show m.server.box=_; rw [h.box]; simp only [hgn]
    busy:=rfl
    idle:=fun _=>rfl
    work:=fun j hj=>by cases hj
    down:=fun x=>absurd x (by simp [hu])
    upp:=h.upp
    clean:=fun _ _=>rfl
    cells:=h.cells
    right:=hpm1
    nm:=by show zbR m.store.cells=zd8 (m.store.past++[m.server.now]); rw [zn7]; exact hpm2
    undo:=fun q hq=>by cases hq
    past:=fun r hr=>by
     have hr':r ∈ m.store.past++[m.server.now]:=hr
     rcases List.mem_append.1 hr' with hr' | hr'
     ·exact h.past r hr'
     ·simp at hr'
      exact ⟨i,c.got.length,hi,p5,by rw [hr',w2]⟩
    falls:=h.falls
    gens:=h.gens
    clients:=fun k d hd=>by
     show CInv l (m.store.past++[m.server.now]) (zci m.store.answers ⟨m.server.now.client,m.server.now.token,m.server.says⟩) m.server.gen m.up ks none k d
     rcases zlV hc hd with ⟨rfl,rfl⟩ | ⟨hne2,hd⟩
     ·have hml:(zce (m.store.past++[m.server.now]) k).length=c.got.length+1:=by rw [hmi,List.length_append,p6]; rfl
      have hta:(zcI (m.store.past++[m.server.now]) k).getD c.got.length ⟨0,0⟩=m.server.says:=by
       rw [hti,List.getD_eq_getElem?_getD,List.getElem?_append_right (by omega),show c.got.length - (zcI m.store.past k).length=0 by omega]
       rfl
      refine ⟨ci.calls,ci.at_,?_,by rw [hml]; omega,?_,.inr hml,?_,ci.hgen,.hear p1 (by simp) p2 hml ?_⟩
      ·rw [hml,List.range_succ,List.map_append,hmi,ci.done,p6,w2]
       simp
      ·show c.got=_
       rw [hti,List.take_append_of_le_length (show c.got.length<=(zcI m.store.past k).length by omega)]
       exact ci.got
      ·rw [hml,if_neg (by omega),Nat.add_sub_cancel,hta]
       have:=zmW m.store.answers ⟨m.server.now.client,m.server.now.token,m.server.says⟩
       rw [hcl,htk] at this ⊢
       exact this
      ·show [zb1 ⟨m.server.now.client,m.server.now.token,m.server.says⟩]=_
       rw [hta,hcl,htk]
     ·have hkc:m.server.now.client≠(k:Int):=by rw [hcl]; omega
      refine (h.clients k d hd).other (by rw [zk4,if_neg hkc]) (by rw [ziw,if_neg hkc]) (znC _ _ _ (fun e=>hkc e.symm)) Iff.rfl ?_
      simp
      exact fun e=>hne2 e.symm }
 | none =>
  have hbusy:m.server.busy=false:=h.busy
  have hsv:=h.idle rfl
  have hundo:=h.clean hu rfl
  cases ks with
  | nil =>
   rw [zhK hbusy (by rw [h.box]; rfl)]
   exact ⟨[],none,h⟩
  | cons k ks =>
   have hk:k < l.length:=h.ksl k (by simp)
   obtain ⟨c,hc⟩:∃ c,m.clients[k]?=some c:=⟨_,List.getElem?_eq_getElem (by rw [h.nc]; exact hk)⟩
   have ci:=h.clients k c hc
   have hph:c.sent=true/\c.gen=m.server.gen/\c.box=[]/\c.got.length < (l.getD k []).length:=by
    cases ci.phase with
    | rest a=>exact absurd (by simp) a
    | wait a b d e f g=>exact ⟨d,e,f,g⟩
    | work a=>exact absurd (by simp) a
    | hear a=>exact absurd (by simp) a
    | lost a=>exact absurd (by simp) a
   obtain ⟨p2,p3,p4,p5⟩:=hph
   have hbox:m.server.box=zbA (zbi l k c.got.length)::ks.map (fun k=>zbA (zbi l k (zbD m.clients k))):=by
    rw [h.box,List.map_cons,zb9 hc]
   have hnd:=List.nodup_cons.1 h.nodup
   have hstep:=ci.step
   have hlast:=ci.last
   have htl:=zfS m.store.past k
   have hS:=serve_take (s:=m.store) hbusy hbox (zhg hl hk p5)
   have hrc:(zbi l k c.got.length).client=(k:Int):=rfl
   have hrt:(zbi l k c.got.length).token=(c.got.length:Int):=rfl
   rw [hrc,hrt,hlast] at hS
   by_cases hd:(zce m.store.past k).length=c.got.length+1
   ·-- it was done: the same answer again
    rw [if_neg (show ¬ (zce m.store.past k).length=0 by omega),hd,Nat.add_sub_cancel] at hS
    rw [if_pos (by exact ⟨rfl,Int.le_refl _⟩),if_pos (by rfl)] at hS
    rw [hS]
    simp only []
    have hne:zb1 ⟨(k:Int),(c.got.length:Int),(zcI m.store.past k).getD c.got.length ⟨0,0⟩⟩≠[]:=by simp [zb1]
    have hto:((zb1 ⟨(k:Int),(c.got.length:Int),(zcI m.store.past k).getD c.got.length ⟨0,0⟩⟩).getD 1 0).toNat=k:=by
     have:=zh9 (a:=⟨(k:Int),(c.got.length:Int),(zcI m.store.past k).getD c.got.length ⟨0,0⟩⟩) (by show (0:Int)<=k; omega) (by show (k:Int) < 3; omega)
     have this2:(((zb1 ⟨(k:Int),(c.got.length:Int),(zcI m.store.past k).getD c.got.length ⟨0,0⟩⟩).getD 1 0).toNat:Int)=(k:Int):=this
     omega
    rw [if_neg (by simp),if_pos hne,hto,if_pos (by rw [h.nc]; exact hk)]
    have hgd:m.clients.getD k (zbO [])=c:=by rw [List.getD_eq_getElem?_getD,hc]; rfl
    rw [hgd]
    have hcome:zcg c (zb1 ⟨(k:Int),(c.got.length:Int),(zcI m.store.past k).getD c.got.length ⟨0,0⟩⟩)={ c with box:=[zb1 ⟨(k:Int),(c.got.length:Int),(zcI m.store.past k).getD c.got.length ⟨0,0⟩⟩] }:=by
     unfold zcg
     rw [p4]
     rfl
    rw [hcome]
    have hgn:∀ j,zbD (m.clients.set k { c with box:=[zb1 ⟨(k:Int),(c.got.length:Int),(zcI m.store.past k).getD c.got.length ⟨0,0⟩⟩] }) j=zbD m.clients j:=fun j=>zhW (c':={ c with box:=[zb1 ⟨(k:Int),(c.got.length:Int),(zcI m.store.past k).getD c.got.length ⟨0,0⟩⟩] }) hc rfl j
    refine ⟨ks,none,?_⟩
    exact {
     nc:=by show (m.clients.set k _).length=_; rw [List.length_set]; exact h.nc
     nodup:=hnd.2
     ksl:=fun j hj=>h.ksl j (by simp [hj])
     box:=by show ks.map (fun k=>zbA (zbi l k (zbD m.clients k)))=_; simp only [hgn]
     busy:=h.busy
     idle:=fun _=>by
      show ({ m.server with box:=ks.map (fun k=>zbA (zbi l k (zbD m.clients k))) }:Sv)=zbM m.server.gen _
      rw [hsv]; rfl
     work:=fun j hj=>by cases hj
     down:=fun x=>absurd x (by simp [hu])
     upp:=h.upp
     clean:=h.clean
     cells:=h.cells
     right:=h.right
     nm:=h.nm
     undo:=h.undo
     past:=h.past
     falls:=h.falls
     gens:=h.gens
     clients:=fun j d hj=>by
      rcases zlV hc hj with ⟨rfl,rfl⟩ | ⟨hne2,hj⟩
      ·exact ⟨ci.calls,ci.at_,ci.done,ci.most,ci.got,ci.step,ci.last,ci.hgen,.hear hnd.1 (by simp) p2 hd rfl⟩
      ·refine (h.clients j d hj).other rfl rfl rfl ?_ Iff.rfl
       simp [hne2] }
   ·-- it is new
    have hd0:(zce m.store.past k).length=c.got.length:=by omega
    have hnot:¬ ((if (zce m.store.past k).length=0 then (zeroAn,false) else (⟨k,((zce m.store.past k).length - 1:Nat),(zcI m.store.past k).getD ((zce m.store.past k).length - 1) ⟨0,0⟩⟩,true)).2=true /\
      (c.got.length:Int)<=(if (zce m.store.past k).length=0 then (zeroAn,false) else ((⟨k,((zce m.store.past k).length - 1:Nat),(zcI m.store.past k).getD ((zce m.store.past k).length - 1) ⟨0,0⟩⟩:An),true)).1.token):=by
     by_cases hz:(zce m.store.past k).length=0
     ·rw [if_pos hz]; simp
     ·rw [if_neg hz]
      simp only [true_and]
      omega
    rw [if_neg hnot] at hS
    rw [hS]
    simp only []
    rw [if_neg (by simp),if_neg (by simp)]
    refine ⟨ks,some k,?_⟩
    have hnames:zbR m.store.cells=zd8 m.store.past:=by have:=h.nm; rw [hundo] at this; exact this
    exact {
     nc:=h.nc
     nodup:=hnd.2
     ksl:=fun j hj=>h.ksl j (by simp [hj])
     box:=rfl
     busy:=rfl
     idle:=fun x=>by cases x
     work:=fun j hj=>by
      obtain rfl:k=j:=by simpa using hj
      refine ⟨hk,?_,?_,?_,?_⟩
      ·show zbi l k c.got.length=zbi l k (zbD m.clients k); rw [zb9 hc]
      ·show (zbw (zbR m.store.cells) (zbi l k c.got.length).call).2=(zbw (zd8 m.store.past) (zbi l k c.got.length).call).2; rw [hnames]
      ·show zaD m.store.cells (zbq (zbR m.store.cells) (zbi l k c.got.length).call)=zaD (zaD m.store.cells m.store.undo) (zbq (zd8 m.store.past) (zbi l k c.got.length).call)
       rw [hundo,hnames]; rfl
      ·exact zkr _ _
     down:=fun x=>absurd x (by simp [hu])
     upp:=h.upp
     clean:=fun _ x=>by cases x
     cells:=h.cells
     right:=h.right
     nm:=h.nm
     undo:=h.undo
     past:=h.past
     falls:=h.falls
     gens:=h.gens
     clients:=fun j d hj=>by
      by_cases e:j=k
      ·subst e
       obtain rfl:c=d:=by rw [hc] at hj; exact Option.some.inj hj
       exact ⟨ci.calls,ci.at_,ci.done,ci.most,ci.got,ci.step,ci.last,ci.hgen,.work hnd.1 rfl p2 p3 p4 p5 hd0⟩
      ·refine (h.clients j d hj).other rfl rfl rfl ?_ ?_
       ·simp [e]
       ·simp; exact fun x=>e x.symm }

theorem zjt {l:List (List Cl)} (hl:za8 l) {m:Mc} {ks:List Nat} {bz:Option Nat} (h:MInv l m ks bz) (kind n:Int):∃ ks' bz',MInv l (doM m kind n).1 ks' bz':=by
 by_cases h1:kind=1
 ·subst h1; exact zjK hl h n
 by_cases h2:kind=2
 ·subst h2; exact zjJ hl h n
 unfold doM
 rw [if_neg h1,if_neg h2]
 by_cases h3:kind=3
 ·rw [if_pos h3]; exact zqC h
 rw [if_neg h3]
 by_cases h4:kind=4
 ·rw [if_pos h4]; exact zfz h
 ·rw [if_neg h4]; exact ⟨ks,bz,h⟩
theorem zqR {l:List (List Cl)} (hl:za8 l) (steps:List (Int×Int)) {m:Mc} {ks:List Nat} {bz:Option Nat} (h:MInv l m ks bz):∃ ks' bz',MInv l (zcu m steps) ks' bz':=by
 induction steps generalizing m ks bz with
 | nil=>exact ⟨ks,bz,h⟩
 | cons s steps ih =>
  obtain ⟨ks',bz',h'⟩:=zjt hl h s.1 s.2
  exact ih h'
theorem zje {l:List (List Cl)} (hl:za8 l) (steps:List (Int×Int)):∃ ks bz,MInv l (zcu (za1 l) steps) ks bz:=zqR hl steps (zoH l)

open Go Go.RowKit

structure SizeM (m:Mc) (k:Nat):Prop where
 undo:m.store.undo.length<=k
 answers:m.store.answers.length<=k
 past:m.store.past.length<=k
 box:m.server.box.length<=k
 each:∀ c ∈ m.clients,c.got.length<=k/\c.box.length<=k

theorem SizeM.mono {m:Mc} {k j:Nat} (h:SizeM m k) (hk:k<=j):SizeM m j :=
 ⟨Nat.le_trans h.undo hk,Nat.le_trans h.answers hk,Nat.le_trans h.past hk,Nat.le_trans h.box hk,fun c hc=>⟨Nat.le_trans (h.each c hc).1 hk,Nat.le_trans (h.each c hc).2 hk⟩⟩
theorem zjk (l:List (List Cl)):SizeM (za1 l) 0:=⟨Nat.le_refl _,Nat.le_refl _,Nat.le_refl _,Nat.le_refl _,fun c hc=>by
 have hc':c ∈ l.map zbO:=hc
 obtain ⟨x,_,rfl⟩:=List.mem_map.1 hc'
 exact ⟨Nat.le_refl _,Nat.le_refl _⟩⟩

theorem zjC (s:St) (p:Int×Int):(zau s p).undo.length<=s.undo.length+1/\(zau s p).answers=s.answers/\(zau s p).past=s.past:=by
 unfold zau
 split
 ·exact ⟨by simp,rfl,rfl⟩
 ·exact ⟨by omega,rfl,rfl⟩

theorem zoj {s:St} {v:Sv} {k:Nat} (h1:s.undo.length<=k) (h2:s.answers.length<=k) (h3:s.past.length<=k) (h4:v.box.length<=k) :
  (zaz s v).1.undo.length<=k+1/\(zaz s v).1.answers.length<=k+1/\(zaz s v).1.past.length<=k+1/\(zaz s v).2.1.box.length<=k:=by
 unfold zaz
 split
 ·split
  ·rename_i p l _
   obtain ⟨w1,w2,w3⟩:=zjC s p
   refine ⟨by simp only []; omega,by simp only [w2]; omega,by simp only [w3]; omega,h4⟩
  ·have:=zh0 s.answers ⟨v.now.client,v.now.token,v.says⟩
   refine ⟨by simp [zb3],by simp only [zb3]; omega,by simp only [zb3,List.length_append,List.length_cons,List.length_nil]; omega,h4⟩
 ·split
  ·exact ⟨by simp only []; omega,by simp only []; omega,by simp only []; omega,h4⟩
  ·rename_i b l hb
   rw [hb] at h4
   have h5:l.length<=k:=by simp only [List.length_cons] at h4; omega
   dsimp only
   repeat' split
   all_goals exact ⟨by simp only []; omega,by simp only []; omega,by simp only []; omega,h5⟩

theorem zr7 {c:Cn} {k:Nat} (me gen:Int) (up:Bool) (h1:c.got.length<=k) (h2:c.box.length<=k):(zcy c me gen up).1.got.length<=k+1/\(zcy c me gen up).1.box.length<=k+1:=by
 unfold zcy
 split
 ·rename_i b l hb
  rw [hb] at h2
  have h5:l.length<=k:=by simp only [List.length_cons] at h2; omega
  dsimp only
  split
  ·exact ⟨by simp only [List.length_append,List.length_cons,List.length_nil]; omega,by simp only []; omega⟩
  ·exact ⟨by simp only []; omega,by simp only []; omega⟩
 ·repeat' split
  all_goals exact ⟨by simp only []; omega,by simp only []; omega⟩

theorem zpd (v:Sv) (b:List UInt8) {k:Nat} (h:v.box.length<=k):(zbY v b).1.box.length<=k+1:=by
 unfold zbY
 split
 ·simp only []; omega
 ·simp only [List.length_append,List.length_cons,List.length_nil]; omega
theorem zps (c:Cn) (b:List UInt8) {k:Nat} (h1:c.got.length<=k) (h2:c.box.length<=k):(zcg c b).got.length<=k+1/\(zcg c b).box.length<=k+1:=by
 unfold zcg
 split
 ·exact ⟨by simp only []; omega,by simp only [List.length_append,List.length_cons,List.length_nil]; omega⟩
 ·omega
theorem zjl {cl:List Cn} {k:Nat} (h:∀ c ∈ cl,c.got.length<=k/\c.box.length<=k) (i:Nat) {x:Cn} (hx:x.got.length<=k+1/\x.box.length<=k+1):∀ c ∈ cl.set i x,c.got.length<=k+1/\c.box.length<=k+1:=fun c hc=>by
 rcases List.mem_or_eq_of_mem_set hc with h1 | rfl
 ·have:=h c h1; omega
 ·exact hx
theorem znh {cl:List Cn} {k:Nat} (h:∀ c ∈ cl,c.got.length<=k/\c.box.length<=k) (i:Nat):(cl.getD i (zbO [])).got.length<=k/\(cl.getD i (zbO [])).box.length<=k:=by
 by_cases hi:i < cl.length
 ·exact h _ (zgX hi)
 ·rw [List.getD_eq_getElem?_getD,List.getElem?_eq_none (by omega)]
  exact ⟨Nat.zero_le _,Nat.zero_le _⟩

theorem zmc {m:Mc} {k:Nat} (h:SizeM m k) (kind n:Int):SizeM (doM m kind n).1 (k+1):=by
 have hm:=h.mono (Nat.le_succ k)
 unfold doM
 split
 ·split
  ·exact hm
  ·dsimp only
   have hg:=znh h.each n.toNat
   have hgo:=zr7 n m.server.gen m.up hg.1 hg.2
   split
   ·exact hm
   ·split
    ·split
     ·exact hm
     ·exact ⟨hm.undo,hm.answers,hm.past,zpd _ _ h.box,zjl h.each _ hgo⟩
    ·exact ⟨hm.undo,hm.answers,hm.past,hm.box,zjl h.each _ hgo⟩
 ·split
  ·split
   ·exact hm
   ·dsimp only
    obtain ⟨s1,s2,s3,s4⟩:=zoj h.undo h.answers h.past h.box
    split
    ·exact hm
    ·split
     ·split
      ·have hg:=znh h.each ((zaz m.store m.server).2.2.1.getD 1 0).toNat
       exact ⟨s1,s2,s3,Nat.le_succ_of_le s4,zjl h.each _ (zps _ _ hg.1 hg.2)⟩
      ·exact ⟨s1,s2,s3,Nat.le_succ_of_le s4,hm.each⟩
     ·exact ⟨s1,s2,s3,Nat.le_succ_of_le s4,hm.each⟩
  ·split
   ·unfold zd5
    split
    ·exact hm
    ·split
     ·exact hm
     ·exact ⟨hm.undo,hm.answers,hm.past,Nat.zero_le _,hm.each⟩
   ·split
    ·unfold za6
     split
     ·exact hm
     ·split
      ·exact ⟨hm.undo,hm.answers,hm.past,hm.box,hm.each⟩
      ·exact ⟨Nat.zero_le _,hm.answers,hm.past,Nat.zero_le _,hm.each⟩
    ·exact hm
open Go Go.RowKit

theorem zkT {m:Mc} {k:Nat} (h:SizeM m k):∀ steps:List (Int×Int),SizeM (zcu m steps) (k+steps.length):=fun steps=>by
 unfold zcu
 induction steps generalizing m k with
 | nil=>exact h
 | cons p l ih =>
  have:=ih (zmc h p.1 p.2)
  rw [List.length_cons,show k+(l.length+1)=k+1+l.length by omega]
  exact this

open Go Go.RowKit

open Go Go.RowKit

def zgT:List Cl->Int
 | []=>0
 | x::l=>if wrongCl x≠0 then wrongCl x else zgT l
def errL:List (List Cl)->Int
 | []=>0
 | c::l=>if 8 < c.length then 4 else if zgT c≠0 then zgT c else errL l
def zfa (l:List (List Cl)):Int:=if 3 < l.length then 5 else errL l

theorem ziz:∀ {c:List Cl},(∀ y ∈ c,wrongCl y=0)->zgT c=0
 | [],_=>rfl
 | x::l,h=>by
  unfold zgT
  rw [if_neg (by simp [h x (by simp)])]
  exact ziz fun y hy=>h y (by simp [hy])
theorem zk1:∀ {c:List Cl} {q:Nat} {y:Cl},(∀ (j:Nat) (z:Cl),j < q->c[j]?=some z->wrongCl z=0)->c[q]?=some y->wrongCl y≠0->zgT c=wrongCl y
 | [],q,y,_,hy,_=>by simp at hy
 | x::l,0,y,_,hy,hw=>by
  simp at hy
  subst hy
  unfold zgT
  rw [if_pos hw]
 | x::l,q+1,y,h,hy,hw=>by
  unfold zgT
  rw [if_neg (by simp [h 0 x (by omega) rfl])]
  exact zk1 (q:=q) (fun j z hj hz=>h (j+1) z (by omega) (by simpa using hz)) (by simpa using hy) hw
theorem zoA:∀ {l:List (List Cl)},(∀ c ∈ l,c.length<=8/\∀ x ∈ c,wrongCl x=0)->errL l=0
 | [],_=>rfl
 | c::l,h=>by
  obtain ⟨h1,h2⟩:=h c (by simp)
  unfold errL
  rw [if_neg (by omega),if_neg (by simp [ziz h2])]
  exact zoA fun d hd=>h d (by simp [hd])
theorem zmp:∀ {l:List (List Cl)} {k:Nat} {x:List Cl},(∀ (j:Nat) (y:List Cl),j < k->l[j]?=some y->y.length<=8/\∀ z ∈ y,wrongCl z=0)->l[k]?=some x->errL l=errL (x::l.drop (k+1))
 | [],k,x,_,hx=>by simp at hx
 | c::l,0,x,_,hx=>by
  simp at hx
  subst hx
  rfl
 | c::l,k+1,x,h,hx=>by
  obtain ⟨h1,h2⟩:=h 0 c (by omega) rfl
  have ih:=zmp (l:=l) (k:=k) (x:=x) (fun j y hj hy=>h (j+1) y (by omega) (by simpa using hy)) (by simpa using hx)
  rw [errL,if_neg (by omega),if_neg (by simp [ziz h2]),ih]
  rfl
theorem zk9 {l:List (List Cl)} (h:3 < l.length):zfa l=5:=if_pos h
theorem zlj {l:List (List Cl)} (h3:¬ 3 < l.length) {k:Nat} {x:List Cl} (h:∀ (j:Nat) (y:List Cl),j < k->l[j]?=some y->y.length<=8/\∀ z ∈ y,wrongCl z=0) (hx:l[k]?=some x) (h8:8 < x.length):zfa l=4:=by
 unfold zfa
 rw [if_neg h3,zmp h hx,errL,if_pos h8]
theorem zlp {l:List (List Cl)} (h3:¬ 3 < l.length) {k q:Nat} {x:List Cl} {y:Cl} (h:∀ (j:Nat) (y:List Cl),j < k->l[j]?=some y->y.length<=8/\∀ z ∈ y,wrongCl z=0) (hx:l[k]?=some x) (h8:¬ 8 < x.length) (ha:∀ (j:Nat) (z:Cl),j < q->x[j]?=some z->wrongCl z=0) (hy:x[q]?=some y) (hw:wrongCl y≠0):zfa l=wrongCl y:=by
 have hf:=zk1 ha hy hw
 unfold zfa
 rw [if_neg h3,zmp h hx,errL,if_neg h8,if_pos (by rw [hf]; exact hw),hf]
theorem zeZ {l:List (List Cl)} (h:za8 l):zfa l=0:=by
 unfold zfa
 rw [if_neg (by have:=h.1; omega)]
 exact zoA h.2
open Go Go.RowKit

theorem ziE {P:Program} (w:World) (base:Nat) (t ty e:TypeId) (i:TypeInfo) (z:Value) (size bytes:Nat) (ht:P.underlying t=some (.slice e)) (hi:P.info? e=some i) (hz:i.zero=some z)
  (hsize:i.size=size) (hby:i.bytes=bytes) (hzs:z.cells.size=size) (hsz:0 < size)
  (v:Value) (n:Nat) (xs:List Value) (hown:w.ownsRow base e size v n xs) (u:Value) (m:Nat) (news:List Value) (hu:Row w size u m news) (h1:∀ u ∈ news,u.oneCell'=true)
  (hbytes:(n+m) * bytes<=140737488355328) (hpos:0 < bytes) (hbase:base<=w.heap.size) :
  ∃ v' w',(Builtin.append_ #[t,t] ty #[v,u]).run P w=.ok v' w'/\w'.ownsRow base e size v' (n+m) (xs++news)/\w.grownBy w' v.ownBlock/\(v'.ownBlock=v.ownBlock∨∀ g,v'.ownBlock=some g->w.heap.size<=g):=by
 obtain ⟨v',w',hrun,h2,h3⟩:=zcs (P:=P) w base t ty e i z size bytes ht hi hz hsize hby hzs hsz v n xs hown u m news hu h1 hbytes hpos hbase
 refine ⟨v',w',hrun,h2,h3,?_⟩
 have h63:n+m<=maxLen:=by
  have:n+m<=(n+m) * bytes:=Nat.le_mul_of_pos_right _ hpos
  unfold maxLen
  omega
 rcases hown.2 with ⟨rfl,hn⟩ | ⟨g,cap,cur,rfl,hbg,hg,hnc,hcm,hcs,htake⟩
 ·-- onto nothing: whatever comes is new
  subst hn
  have hx:xs=[]:=List.eq_nil_of_length_eq_zero (by simpa using hown.1)
  subst hx
  obtain ⟨v2,w2,hrun2,h4,_⟩:=zcs (P:=P) w w.heap.size t ty e i z size bytes ht hi hz hsize hby hzs hsz (.slice none 0 0) 0 [] (World.ownsRow_nil _ _ _ _) u m news hu h1 hbytes hpos (Nat.le_refl _)
  rw [hrun] at hrun2
  cases hrun2
  exact .inr fun g hgv=>(h4.lt g hgv).1
 ·obtain ⟨hl,ao,ucap,rfl,huc,hum,h0,hcell⟩:=hu
  cases ao with
  | none =>
   have hcap:=h0 rfl
   subst hcap
   have hm0:m=0:=by omega
   subst hm0
   have:=run_append_owned_none (P:=P) w base t ty e i size ht hi _ n xs hown
   rw [this] at hrun
   cases hrun
   exact .inl rfl
  | some ad =>
   have hsrc:∀ j u,news[j]?=some u->w.cell? (ad.add j)=some u:=fun j u hj=>by
    obtain ⟨b,off,e',hc'⟩:=hcell j u hj
    simp only [Option.some.injEq] at e'
    subst e'
    rw [add_plain]; exact hc'
   by_cases hroom:n+m<=cap
   ·subst hsize
    have hr:=run_append_room (P:=P) w t ty e i ht hi g n cap cur hg ad m ucap news hl hsrc h1 hroom (by rw [hcs,hl,<- Nat.add_mul]; exact Nat.mul_le_mul_right _ hroom)
    rw [hrun] at hr
    cases hr
    exact .inl rfl
   ·obtain ⟨v2,w2,hrun2,r1,_⟩:=run_append_arg_grows (P:=P) w t ty e i z size bytes ht hi hz hsize hby hzs hsz ⟨g,0,none⟩ n cap xs hown.1 (hown.cells (g:=g) rfl) ad m ucap news hl hsrc (by omega) h63 hbytes
    rw [hrun] at hrun2
    cases hrun2
    exact .inr fun g hgv=>(r1.lt g hgv).1

section
variable {P:Program} {ops:Array Oper} {rest:List Oper} {o:Oper} {a:Act} {w:World} {Q:Exit->Act->World->Prop}
theorem zeG (hgd:o.guard=none) (s x:Operand) (t:TypeId) (ho:o.op=.call { callee:=.builtin .append,args:=#[s,x],argTypes:=#[t,t] })
  (base:Nat) (e:TypeId) (i:TypeInfo) (z:Value) (size bytes:Nat) (ht:P.underlying t=some (.slice e)) (hi:P.info? e=some i) (hz:i.zero=some z)
  (hsize:i.size=size) (hby:i.bytes=bytes) (hzs:z.cells.size=size) (hsz:0 < size)
  (v:Value) (n:Nat) (xs:List Value) (hs:a.eval s=v) (hown:w.ownsRow base e size v n xs) (u:Value) (hx:a.eval x=u) (m:Nat) (news:List Value) (hu:Row w size u m news) (h1:∀ u ∈ news,u.oneCell'=true)
  (hbytes:(n+m) * bytes<=140737488355328) (hpos:0 < bytes) (hbase:base<=w.heap.size)
  (h:∀ v' w',w'.ownsRow base e size v' (n+m) (xs++news)->w.grownBy w' v.ownBlock->(v'.ownBlock=v.ownBlock∨∀ g,v'.ownBlock=some g->w.heap.size<=g)->wpList P ops Q rest (a.put o.dst v') w'):wpList P ops Q (o::rest) a w:=by
 refine wpList_plain hgd fun K hK=>?_
 obtain ⟨v',w',hrun,h2,h3,h4⟩:=ziE (P:=P) w base t o.type e i z size bytes ht hi hz hsize hby hzs hsz v n xs hown u m news hu h1 hbytes hpos hbase
 unfold Oper.wp
 simp [execOp,ho,resolve,invoke,builtin,hs,hx,hrun,Result.andThen]
 exact hK _ _ (h v' w' h2 h3 h4)
end
open Go Go.RowKit

theorem zl0 {l:List (List Cl)} (hl:za8 l) {m:Mc} {ks:List Nat} {bz:Option Nat} (h:MInv l m ks bz) {i:Nat} {c:Cn} (hc:m.clients[i]?=some c) :
  ((doM m 1 (i:Int)).1=m/\(c.box=[]/\(l.getD i []).length<=c.got.length∨i ∈ ks∨bz=some i∨m.up=false)) ∨
  (∃ r,(doM m 1 (i:Int)).1={ m with clients:=m.clients.set i ⟨c.calls,c.at_+1,false,c.gen,[],c.got++[r]⟩ }/\c.box≠[]/\i ∉ ks/\bz≠some i/\c.got.length < (l.getD i []).length) ∨
  ((doM m 1 (i:Int)).1={ m with server:={ m.server with box:=m.server.box++[zbA (zbi l i c.got.length)] },clients:=m.clients.set i ⟨c.calls,c.at_,true,m.server.gen,[],c.got⟩ }/\c.box=[]/\i ∉ ks/\bz≠some i/\c.got.length < (l.getD i []).length):=by
 have hi:i < m.clients.length:=(List.getElem?_eq_some_iff.1 hc).1
 have hil:i < l.length:=by rw [<- h.nc]; exact hi
 have hgd:m.clients.getD i (zbO [])=c:=by rw [List.getD_eq_getElem?_getD,hc]; rfl
 have ci:=h.clients i c hc
 have h8:(l.getD i []).length<=8:=(hl.2 _ (zgX hil)).1
 have hcalls:=ci.calls
 have hat:=ci.at_
 have hdo:doM m 1 (i:Int)=(if (zcy c (i:Int) m.server.gen m.up).2.2≠0 then (m,(zcy c (i:Int) m.server.gen m.up).2.2) else if (zcy c (i:Int) m.server.gen m.up).2.1≠[] then if (zbY m.server (zcy c (i:Int) m.server.gen m.up).2.1).2≠0 then (m,(zbY m.server (zcy c (i:Int) m.server.gen m.up).2.1).2) else ({ m with server:=(zbY m.server (zcy c (i:Int) m.server.gen m.up).2.1).1,clients:=m.clients.set i (zcy c (i:Int) m.server.gen m.up).1 },0) else ({ m with clients:=m.clients.set i (zcy c (i:Int) m.server.gen m.up).1 },0)):=by
  unfold doM
  rw [if_pos rfl,if_neg (by omega)]
  simp only [Int.toNat_natCast,hgd]
 have hstay:(zcy c (i:Int) m.server.gen m.up).2.2≠0->(doM m 1 (i:Int)).1=m:=fun hne=>by rw [hdo,if_pos hne]
 have hempty:c.box=[]->i ∉ ks->bz≠some i->(c.sent=true->m.up=true->c.gen≠m.server.gen) ->
   ((doM m 1 (i:Int)).1=m/\(c.box=[]/\(l.getD i []).length<=c.got.length∨i ∈ ks∨bz=some i∨m.up=false))∨((doM m 1 (i:Int)).1={ m with server:={ m.server with box:=m.server.box++[zbA (zbi l i c.got.length)] },clients:=m.clients.set i ⟨c.calls,c.at_,true,m.server.gen,[],c.got⟩ }/\c.box=[]/\i ∉ ks/\bz≠some i/\c.got.length < (l.getD i []).length):=by
  intro hb hk hz hs
  have hG:=zeT (c:=c) (me:=(i:Int)) (gen:=m.server.gen) (up:=m.up) hb
  by_cases hd:(c.calls.length:Int)<=c.at_
  ·rw [if_pos hd] at hG
   exact .inl ⟨hstay (by rw [hG]; simp),.inl ⟨hb,by rw [<- hcalls]; omega⟩⟩
  rw [if_neg hd] at hG
  by_cases hu:m.up=true
  case neg =>
   rw [if_pos hu] at hG
   exact .inl ⟨hstay (by rw [hG]; simp),.inr (.inr (.inr (by simpa using hu)))⟩
  rw [if_neg (fun x=>x hu)] at hG
  by_cases hw:c.sent=true/\c.gen=m.server.gen
  ·exact absurd hw.2 (hs hw.1 hu)
  rw [if_neg hw] at hG
  have hlt:c.got.length < (l.getD i []).length:=by rw [<- hcalls]; omega
  have hreq:(⟨(i:Int),c.at_,c.calls.getD c.at_.toNat ⟨0,0,0,0⟩⟩:Rq)=zbi l i c.got.length:=by
   unfold zbi
   rw [hcalls,hat]
   rfl
  rw [hreq] at hG
  have hks:ks.length < 3:=by
   have hsub:(i::ks).Nodup:=List.nodup_cons.2 ⟨hk,h.nodup⟩
   have hle:(i::ks).length<=l.length:=zhY hsub (fun x hx=>by
    rcases List.mem_cons.1 hx with rfl | hx
    ·exact hil
    ·exact h.ksl x hx)
   have:=hl.1
   simp at hle
   omega
  have hbl:m.server.box.length=ks.length:=by rw [h.box,List.length_map]
  have hcome:zbY m.server (zbA (zbi l i c.got.length))=({ m.server with box:=m.server.box++[zbA (zbi l i c.got.length)] },0):=by
   unfold zbY
   rw [if_neg (by omega)]
  rw [hG] at hdo
  rw [if_neg (by simp),if_pos (by simp [zbA])] at hdo
  simp only [] at hdo
  rw [hcome,if_neg (by simp)] at hdo
  exact .inr ⟨by rw [hdo],hb,hk,hz,hlt⟩
 cases ci.phase with
 | rest a b d e f =>
  rcases hempty e a b (fun x=>by rw [d] at x; cases x) with x | x
  ·exact .inl x
  ·exact .inr (.inr x)
 | lost a b d e f g =>
  rcases hempty e a b (fun _=>g) with x | x
  ·exact .inl x
  ·exact .inr (.inr x)
 | wait a b d e f g =>
  refine .inl ⟨hstay ?_,.inr (.inl a)⟩
  rw [zeT f,if_neg (by rw [hcalls,hat]; omega)]
  by_cases hu:m.up=true
  ·rw [if_neg (fun x=>x hu),if_pos ⟨d,e⟩]; simp
  ·rw [if_pos hu]; simp
 | work a b d e f g k =>
  refine .inl ⟨hstay ?_,.inr (.inr (.inl b))⟩
  rw [zeT f,if_neg (by rw [hcalls,hat]; omega)]
  by_cases hu:m.up=true
  ·rw [if_neg (fun x=>x hu),if_pos ⟨d,e⟩]; simp
  ·rw [if_pos hu]; simp
 | hear a b d e f =>
  have htl:=zfS m.store.past i
  have hmost:=ci.most
  have hw:=ziF hl h.past hil (t:=c.got.length) (by omega) (by omega)
  have hG:=zk7 (gen:=m.server.gen) (up:=m.up) f hw rfl ci.at_.symm d
  rw [hG] at hdo
  rw [if_neg (by simp),if_neg (by simp)] at hdo
  exact .inr (.inl ⟨_,by rw [hdo],by rw [f]; simp,a,b,by omega⟩)

theorem zlG {l:List (List Cl)} (hl:za8 l) {m:Mc} {ks:List Nat} {bz:Option Nat} (h:MInv l m ks bz) (n:Int) :
  ((doM m 2 n).1=m/\(m.up=false∨ks=[]/\bz=none)) ∨
  (∃ i q rest s,bz=some i/\m.server.plan=q::rest/\(doM m 2 n).1={ m with store:=s,server:={ m.server with plan:=rest } }) ∨
  (∃ i c b s,bz=some i/\m.server.plan=[]/\m.clients[i]?=some c/\i ∉ ks/\(doM m 2 n).1={ m with store:=s,server:=zbM m.server.gen m.server.box,clients:=m.clients.set i { c with box:=[b] } }) ∨
  (∃ k ks' c b,bz=none/\ks=k::ks'/\m.clients[k]?=some c/\(doM m 2 n).1={ m with server:={ m.server with box:=ks'.map (fun k=>zbA (zbi l k (zbD m.clients k))) },clients:=m.clients.set k { c with box:=[b] } }) ∨
  (∃ k ks' r p s,bz=none/\ks=k::ks'/\r.client=(k:Int)/\p.length<=3/\(doM m 2 n).1={ m with server:={ m.server with box:=ks'.map (fun k=>zbA (zbi l k (zbD m.clients k))),busy:=true,now:=r,plan:=p,says:=s } }):=by
 have h3:=hl.1
 have hdo:m.up=true->doM m 2 n=(if (zaz m.store m.server).2.2.2≠0 then (m,(zaz m.store m.server).2.2.2) else if (zaz m.store m.server).2.2.1≠[] then
   if ((zaz m.store m.server).2.2.1.getD 1 0).toNat < m.clients.length then ({ m with store:=(zaz m.store m.server).1,server:=(zaz m.store m.server).2.1,clients:=m.clients.set ((zaz m.store m.server).2.2.1.getD 1 0).toNat (zcg (m.clients.getD ((zaz m.store m.server).2.2.1.getD 1 0).toNat (zbO [])) (zaz m.store m.server).2.2.1) },0)
   else ({ m with store:=(zaz m.store m.server).1,server:=(zaz m.store m.server).2.1 },0) else ({ m with store:=(zaz m.store m.server).1,server:=(zaz m.store m.server).2.1 },0)):=fun hu=>by
  unfold doM
  rw [if_neg (by decide),if_pos rfl,if_neg (fun x=>x hu)]
 by_cases hu:m.up=true
 case neg =>
  refine .inl ⟨?_,.inl (by simpa using hu)⟩
  unfold doM
  rw [if_neg (by decide),if_pos rfl,if_pos hu]
 replace hdo:=hdo hu
 cases bz with
 | some i =>
  have hbusy:m.server.busy=true:=h.busy
  obtain ⟨hi,w2,w3,w4,w5⟩:=h.work i rfl
  obtain ⟨c,hc⟩:∃ c,m.clients[i]?=some c:=⟨_,List.getElem?_eq_getElem (by rw [h.nc]; exact hi)⟩
  have ci:=h.clients i c hc
  have hph:i ∉ ks/\c.box=[]:=by
   cases ci.phase with
   | rest a b=>exact absurd rfl b
   | wait a b=>exact absurd rfl b
   | work a b d e f g k=>exact ⟨a,f⟩
   | hear a b=>exact absurd rfl b
   | lost a b=>exact absurd rfl b
  cases hp:m.server.plan with
  | cons q rest =>
   rw [zgJ hbusy hp] at hdo
   rw [if_neg (by simp),if_neg (by simp)] at hdo
   exact .inr (.inl ⟨i,q,rest,_,rfl,rfl,by rw [hdo]⟩)
  | nil =>
   rw [zgj hbusy hp] at hdo
   have hcl:m.server.now.client=(i:Int):=by rw [w2]; rfl
   have hne:zb1 ⟨m.server.now.client,m.server.now.token,m.server.says⟩≠[]:=by simp [zb1]
   have hto:((zb1 ⟨m.server.now.client,m.server.now.token,m.server.says⟩).getD 1 0).toNat=i:=by
    have:=zh9 (a:=⟨m.server.now.client,m.server.now.token,m.server.says⟩) (by show 0<=m.server.now.client; rw [hcl]; omega) (by show m.server.now.client < 3; rw [hcl]; omega)
    rw [hcl] at this ⊢
    have this2:(((zb1 ⟨(i:Int),m.server.now.token,m.server.says⟩).getD 1 0).toNat:Int)=(i:Int):=this
    omega
   have hgd:m.clients.getD i (zbO [])=c:=by rw [List.getD_eq_getElem?_getD,hc]; rfl
   have hcome:zcg c (zb1 ⟨m.server.now.client,m.server.now.token,m.server.says⟩)={ c with box:=[zb1 ⟨m.server.now.client,m.server.now.token,m.server.says⟩] }:=by
    unfold zcg
    rw [hph.2]
    rfl
   simp only [] at hdo
   rw [if_neg (by simp),if_pos hne,hto,if_pos (by rw [h.nc]; exact hi),hgd,hcome] at hdo
   exact .inr (.inr (.inl ⟨i,c,_,_,rfl,rfl,hc,hph.1,by rw [hdo]⟩))
 | none =>
  have hbusy:m.server.busy=false:=h.busy
  cases ks with
  | nil =>
   rw [zhK hbusy (by rw [h.box]; rfl)] at hdo
   rw [if_pos (by simp)] at hdo
   exact .inl ⟨by rw [hdo],.inr ⟨rfl,rfl⟩⟩
  | cons k ks =>
   have hk:k < l.length:=h.ksl k (by simp)
   obtain ⟨c,hc⟩:∃ c,m.clients[k]?=some c:=⟨_,List.getElem?_eq_getElem (by rw [h.nc]; exact hk)⟩
   have ci:=h.clients k c hc
   have hph:c.box=[]/\c.got.length < (l.getD k []).length:=by
    cases ci.phase with
    | rest a=>exact absurd (by simp) a
    | wait a b d e f g=>exact ⟨f,g⟩
    | work a=>exact absurd (by simp) a
    | hear a=>exact absurd (by simp) a
    | lost a=>exact absurd (by simp) a
   have hbox:m.server.box=zbA (zbi l k c.got.length)::ks.map (fun k=>zbA (zbi l k (zbD m.clients k))):=by
    rw [h.box,List.map_cons,zb9 hc]
   have hstep:=ci.step
   have hlast:=ci.last
   have hS:=serve_take (s:=m.store) hbusy hbox (zhg hl hk hph.2)
   have hrc:(zbi l k c.got.length).client=(k:Int):=rfl
   have hrt:(zbi l k c.got.length).token=(c.got.length:Int):=rfl
   rw [hrc,hrt,hlast] at hS
   by_cases hd:(zce m.store.past k).length=c.got.length+1
   ·rw [if_neg (show ¬ (zce m.store.past k).length=0 by omega),hd,Nat.add_sub_cancel] at hS
    rw [if_pos (by exact ⟨rfl,Int.le_refl _⟩),if_pos (by rfl)] at hS
    have hne:zb1 ⟨(k:Int),(c.got.length:Int),(zcI m.store.past k).getD c.got.length ⟨0,0⟩⟩≠[]:=by simp [zb1]
    have hto:((zb1 ⟨(k:Int),(c.got.length:Int),(zcI m.store.past k).getD c.got.length ⟨0,0⟩⟩).getD 1 0).toNat=k:=by
     have:=zh9 (a:=⟨(k:Int),(c.got.length:Int),(zcI m.store.past k).getD c.got.length ⟨0,0⟩⟩) (by show (0:Int)<=k; omega) (by show (k:Int) < 3; omega)
     have this2:(((zb1 ⟨(k:Int),(c.got.length:Int),(zcI m.store.past k).getD c.got.length ⟨0,0⟩⟩).getD 1 0).toNat:Int)=(k:Int):=this
     omega
    have hgd:m.clients.getD k (zbO [])=c:=by rw [List.getD_eq_getElem?_getD,hc]; rfl
    have hcome:zcg c (zb1 ⟨(k:Int),(c.got.length:Int),(zcI m.store.past k).getD c.got.length ⟨0,0⟩⟩)={ c with box:=[zb1 ⟨(k:Int),(c.got.length:Int),(zcI m.store.past k).getD c.got.length ⟨0,0⟩⟩] }:=by
     unfold zcg
     rw [hph.1]
     rfl
    rw [hS] at hdo
    simp only [] at hdo
    rw [if_neg (by simp),if_pos hne,hto,if_pos (by rw [h.nc]; exact hk),hgd,hcome] at hdo
    exact .inr (.inr (.inr (.inl ⟨k,ks,c,_,rfl,rfl,hc,by rw [hdo]⟩)))
   ·have hd0:(zce m.store.past k).length=c.got.length:=by omega
    have hnot:¬ ((if (zce m.store.past k).length=0 then (zeroAn,false) else (⟨k,((zce m.store.past k).length - 1:Nat),(zcI m.store.past k).getD ((zce m.store.past k).length - 1) ⟨0,0⟩⟩,true)).2=true /\
      (c.got.length:Int)<=(if (zce m.store.past k).length=0 then (zeroAn,false) else ((⟨k,((zce m.store.past k).length - 1:Nat),(zcI m.store.past k).getD ((zce m.store.past k).length - 1) ⟨0,0⟩⟩:An),true)).1.token):=by
     by_cases hz:(zce m.store.past k).length=0
     ·rw [if_pos hz]; simp
     ·rw [if_neg hz]
      simp only [true_and]
      omega
    rw [if_neg hnot] at hS
    rw [hS] at hdo
    simp only [] at hdo
    rw [if_neg (by simp),if_neg (by simp)] at hdo
    exact .inr (.inr (.inr (.inr ⟨k,ks,zbi l k c.got.length,_,_,rfl,rfl,rfl,zkr _ _,by rw [hdo]⟩)))
end Go.Mk

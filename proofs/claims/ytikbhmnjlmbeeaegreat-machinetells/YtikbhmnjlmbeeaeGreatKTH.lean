/- Texts of the proof, merged: Math12 Math13 Math25 Math21 Math22 Math23 Math26. -/
import Derived.Test.YtikbhmnjlmbeeaeGreatKTA
import Derived.Test.YtikbhmnjlmbeeaeGreatKTG
import Derived.Test.YtikbhmnjlmbeeaeGreatKTD
import Derived.Test.YtikbhmnjlmbeeaeGreatKTE

namespace Go.Mk
open Go Go.RowKit

theorem zlw {cl : List Cn} {i k : Nat} {c : Cn} (h : k ≠ i) : zdi (cl.set i c) k = zdi cl k:=by
 unfold zdi
 rw [List.getD_eq_getElem?_getD,List.getD_eq_getElem?_getD,List.getElem?_set_ne (fun e=>h e.symm)]
theorem zec {cl : List Cn} {i : Nat} {c : Cn} (h : cl[i]? = some c) : zdi cl i = c.got.length:=by
 unfold zdi
 rw [List.getD_eq_getElem?_getD,h]
 rfl
theorem zkp {X : Type} {cl : List X} {i k : Nat} {c c' d : X} (hc : cl[i]? = some c) (h : (cl.set i c')[k]? = some d) : k = i /\ d = c' ∨ k ≠ i /\ cl[k]? = some d:=by
 by_cases e : k = i
 ·subst e
  have hl : k < cl.length:=(List.getElem?_eq_some_iff.1 hc).1
  rw [List.getElem?_set_self hl] at h
  exact .inl ⟨rfl,(Option.some.inj h).symm⟩
 ·rw [List.getElem?_set_ne (fun x=>e x.symm)] at h
  exact .inr ⟨e,h⟩
theorem zgX {cl : List Cn} {i : Nat} {c c' : Cn} (hc : cl[i]? = some c) (hg : c'.got.length = c.got.length) (k : Nat) : zdi (cl.set i c') k = zdi cl k:=by
 by_cases e : k = i
 ·subst e
  have hl : k < cl.length:=(List.getElem?_eq_some_iff.1 hc).1
  rw [zec (c:=c') (List.getElem?_set_self hl),zec hc,hg]
 ·exact zlw e

theorem znt {c : Cn} {me gen : Int} {up : Bool} {a : An} (hb : c.box = [zcg a]) (hw : zbv a = 0) (h1 : a.client = me) (h2 : a.token = c.at_) (h3 : c.sent = true) :
  zcW c me gen up = (⟨c.calls,c.at_ + 1,false,c.gen,[],c.got ++ [a.reply]⟩,[],0):=by
 unfold zcW
 rw [hb]
 simp only [zic hw]
 rw [if_pos (by exact ⟨trivial,h1,h2,h3⟩)]
theorem zhK {c : Cn} {me gen : Int} {up : Bool} (hb : c.box = []) : zcW c me gen up = if (c.calls.length : Int) <= c.at_ then (c,[],11) else if ¬ up then (c,[],10) else if c.sent /\ c.gen = gen then (c,[],12) else (⟨c.calls,c.at_,true,gen,[],c.got⟩,zcH ⟨me,c.at_,c.calls.getD c.at_.toNat ⟨0,0,0,0⟩⟩,0):=by
 unfold zcW
 rw [hb]

theorem zos {X : Type} {xs : List X} {n : Nat} {d : X} (h : n < xs.length) : xs.take (n + 1) = xs.take n ++ [xs.getD n d]:=by
 rw [List.take_add_one,List.getD_eq_getElem?_getD,List.getElem?_eq_getElem h]
 rfl

theorem zly : ∀ {n : Nat} {ks : List Nat},ks.Nodup -> (∀ k ∈ ks,k < n) -> ks.length <= n
 | 0,ks,_,h=>by
  cases ks with
  | nil=>exact Nat.le_refl _
  | cons k ks=>exact absurd (h k (by simp)) (by omega)
 | n + 1,ks,hd,h=>by
  have h1:=zly (n:=n) (ks:=ks.erase n) (hd.erase n) (fun k hk=>by
   have h2:=h k (List.mem_of_mem_erase hk)
   have h3 : k ≠ n:=fun e=>by subst e; exact absurd hk (hd.not_mem_erase)
   omega)
  by_cases hm : n ∈ ks
  ·have:=List.length_erase_of_mem hm
   omega
  ·rw [List.erase_of_not_mem hm] at h1
   omega

theorem zmr {l : List (List Cl)} (hl : zbJ l) {m : Mc} {ks : List Nat} {bz : Option Nat} (h : MInv l m ks bz) (n : Int) : ∃ ks' bz',MInv l (doM m 1 n).1 ks' bz':=by
 unfold doM
 rw [if_pos rfl]
 by_cases hn : n < 0 ∨ (m.clients.length : Int) <= n
 ·rw [if_pos hn]; exact ⟨ks,bz,h⟩
 rw [if_neg hn]
 obtain ⟨i,rfl⟩ : ∃ i : Nat,n = (i : Int):=⟨n.toNat,by omega⟩
 simp only [Int.toNat_natCast]
 have hi : i < m.clients.length:=by omega
 have hil : i < l.length:=by rw [<- h.nc]; exact hi
 obtain ⟨c,hc⟩ : ∃ c,m.clients[i]? = some c:=⟨_,List.getElem?_eq_getElem hi⟩
 have hgd : m.clients.getD i (zb8 []) = c:=by rw [List.getD_eq_getElem?_getD,hc]; rfl
 rw [hgd]
 have ci:=h.clients i c hc
 have h8 : (l.getD i []).length <= 8:=(hl.2 _ (zjb hil)).1
 generalize hG : zcW c (i : Int) m.server.gen m.up = G
 have hsame : G.2.2 ≠ 0 -> ∃ ks' bz',MInv l (if G.2.2 ≠ 0 then (m,G.2.2) else if G.2.1 ≠ [] then if (zcn m.server G.2.1).2 ≠ 0 then (m,(zcn m.server G.2.1).2) else ({ m with server:=(zcn m.server G.2.1).1,clients:=m.clients.set i G.1 },0) else ({ m with clients:=m.clients.set i G.1 },0)).1 ks' bz':=fun hne=>by
  rw [if_pos hne]; exact ⟨ks,bz,h⟩
 have hempty : c.box = [] -> i ∉ ks -> bz ≠ some i -> (c.sent = true -> m.up = true -> c.gen ≠ m.server.gen) ->
   ∃ ks' bz',MInv l (if G.2.2 ≠ 0 then (m,G.2.2) else if G.2.1 ≠ [] then if (zcn m.server G.2.1).2 ≠ 0 then (m,(zcn m.server G.2.1).2) else ({ m with server:=(zcn m.server G.2.1).1,clients:=m.clients.set i G.1 },0) else ({ m with clients:=m.clients.set i G.1 },0)).1 ks' bz':=by
  intro hb hk hz hs
  rw [zhK hb] at hG
  by_cases hd : (c.calls.length : Int) <= c.at_
  ·rw [if_pos hd] at hG; exact hsame (by rw [<- hG]; simp)
  rw [if_neg hd] at hG
  by_cases hu : m.up = true
  case neg=>rw [if_pos hu] at hG; exact hsame (by rw [<- hG]; simp)
  rw [if_neg (fun x=>x hu)] at hG
  by_cases hw : c.sent = true /\ c.gen = m.server.gen
  ·rw [if_pos hw] at hG; exact hsame (by rw [<- hG]; simp)
  rw [if_neg hw] at hG
  have hcalls:=ci.calls
  have hat:=ci.at_
  have hlt : c.got.length < (l.getD i []).length:=by rw [<- hcalls]; omega
  have hreq : (⟨(i : Int),c.at_,c.calls.getD c.at_.toNat ⟨0,0,0,0⟩⟩ : Rq) = zcp l i c.got.length:=by
   unfold zcp
   rw [hcalls,hat]
   rfl
  rw [hreq] at hG
  subst hG
  have hks : ks.length < 3:=by
   have hsub : (i :: ks).Nodup:=List.nodup_cons.2 ⟨hk,h.nodup⟩
   have hle : (i :: ks).length <= l.length:=zly hsub (fun x hx=>by
    rcases List.mem_cons.1 hx with rfl | hx
    ·exact hil
    ·exact h.ksl x hx)
   have:=hl.1
   simp at hle
   omega
  have hbl : m.server.box.length = ks.length:=by rw [h.box,List.length_map]
  have hcome : zcn m.server (zcH (zcp l i c.got.length)) = ({ m.server with box:=m.server.box ++ [zcH (zcp l i c.got.length)] },0):=by
   unfold zcn
   rw [if_neg (by omega)]
  rw [if_neg (by simp),if_pos (by simp [zcH])]
  simp only []
  rw [hcome,if_neg (by simp)]
  refine ⟨ks ++ [i],bz,?_⟩
  have hgs:=fun k=>zgX (c':=(⟨c.calls,c.at_,true,m.server.gen,[],c.got⟩ : Cn)) hc rfl k
  exact {
   nc:=by show (m.clients.set i _).length = _; rw [List.length_set]; exact h.nc
   nodup:=by
    rw [List.nodup_append]
    refine ⟨h.nodup,by simp,fun x hx y hy e=>?_⟩
    simp at hy
    subst hy
    subst e
    exact hk hx
   ksl:=fun k hx=>by
    rcases List.mem_append.1 hx with hx | hx
    ·exact h.ksl k hx
    ·simp at hx; subst hx; exact hil
   box:=by
    show m.server.box ++ [zcH (zcp l i c.got.length)] = _
    rw [List.map_append,h.box]
    simp only [hgs]
    rw [List.map_cons,List.map_nil,zec hc]
   busy:=h.busy
   idle:=fun hz=>by
    show ({ m.server with box:=m.server.box ++ [zcH (zcp l i c.got.length)] } : Sv) = zbP m.server.gen (m.server.box ++ [zcH (zcp l i c.got.length)])
    rw [h.idle hz]
    rfl
   work:=fun j hj=>by
    obtain ⟨w1,w2,w3,w4,w5⟩:=h.work j hj
    exact ⟨w1,by show m.server.now = zcp l j (zdi (m.clients.set i _) j); rw [hgs]; exact w2,w3,w4,w5⟩
   down:=fun hd=>absurd hd (by simp [hu])
   upp:=h.upp
   clean:=h.clean
   cells:=h.cells
   right:=h.right
   nm:=h.nm
   undo:=h.undo
   past:=h.past
   falls:=h.falls
   gens:=h.gens
   clients:=fun k d hd=>by
    rcases zkp hc hd with ⟨rfl,rfl⟩ | ⟨hne,hd⟩
    ·exact ⟨hcalls,hat,ci.done,ci.most,ci.got,ci.step,ci.last,Int.le_refl _,.wait (by simp) hz rfl rfl rfl hlt⟩
    ·refine (h.clients k d hd).other rfl rfl rfl ?_ Iff.rfl
     simp [hne] }
 cases ci.phase with
 | rest a b d e f=>exact hempty e a b (fun x=>by rw [d] at x; cases x)
 | wait a b d e f g =>
  refine hsame ?_
  rw [<- hG,zhK f]
  have hcalls:=ci.calls
  have hat:=ci.at_
  rw [if_neg (by rw [hcalls,hat]; omega)]
  by_cases hu : m.up = true
  ·rw [if_neg (fun x=>x hu),if_pos ⟨d,e⟩]; simp
  ·rw [if_pos hu]; simp
 | work a b d e f g k =>
  refine hsame ?_
  rw [<- hG,zhK f]
  have hcalls:=ci.calls
  have hat:=ci.at_
  rw [if_neg (by rw [hcalls,hat]; omega)]
  by_cases hu : m.up = true
  ·rw [if_neg (fun x=>x hu),if_pos ⟨d,e⟩]; simp
  ·rw [if_pos hu]; simp
 | lost a b d e f g=>exact hempty e a b (fun _=>g)
 | hear a b d e f =>
  have htl:=zg0 m.store.past i
  have hmost:=ci.most
  have hw:=zjz hl h.past hil (t:=c.got.length) (by omega) (by omega)
  rw [znt f hw rfl ci.at_.symm d] at hG
  subst hG
  rw [if_neg (by simp),if_neg (by simp)]
  simp only []
  refine ⟨ks,bz,?_⟩
  have hgn : ∀ k,k ≠ i -> zdi (m.clients.set i (⟨c.calls,c.at_ + 1,false,c.gen,[],c.got ++ [(zcX m.store.past i).getD c.got.length ⟨0,0⟩]⟩ : Cn)) k = zdi m.clients k:=fun k hk=>zlw hk
  exact {
   nc:=by show (m.clients.set i _).length = _; rw [List.length_set]; exact h.nc
   nodup:=h.nodup
   ksl:=h.ksl
   box:=by
    show m.server.box = _
    rw [h.box]
    refine List.map_congr_left fun k hk=>?_
    rw [hgn k (fun e=>by subst e; exact a hk)]
   busy:=h.busy
   idle:=h.idle
   work:=fun j hj=>by
    obtain ⟨w1,w2,w3,w4,w5⟩:=h.work j hj
    exact ⟨w1,by show m.server.now = zcp l j (zdi (m.clients.set i _) j); rw [hgn j (fun e=>by subst e; exact b hj)]; exact w2,w3,w4,w5⟩
   down:=h.down
   upp:=h.upp
   clean:=h.clean
   cells:=h.cells
   right:=h.right
   nm:=h.nm
   undo:=h.undo
   past:=h.past
   falls:=h.falls
   gens:=h.gens
   clients:=fun k x hx=>by
    rcases zkp hc hx with ⟨rfl,rfl⟩ | ⟨hne,hx⟩
    ·have hgl : (c.got ++ [(zcX m.store.past k).getD c.got.length ⟨0,0⟩]).length = c.got.length + 1:=by simp
     refine ⟨ci.calls,?_,ci.done,ci.most,?_,.inl ?_,ci.last,ci.hgen,.rest a b rfl rfl ?_⟩
     ·show c.at_ + 1 = _; rw [hgl,ci.at_]; omega
     ·show c.got ++ _ = _
      rw [hgl,zos (by omega : c.got.length < (zcX m.store.past k).length),<- ci.got]
     ·show _ = List.length _; rw [hgl]; exact e
     ·show _ = List.length _; rw [hgl]; exact e
    ·exact h.clients k x hx }
open Go Go.RowKit

theorem zhL {s : St} {v : Sv} {q : Int × Int} {rest : List (Int × Int)} (hb : v.busy = true) (hp : v.plan = q :: rest) : zaM s v = (zax s q,{ v with plan:=rest },[],0):=by
 unfold zaM
 rw [if_pos hb,hp]
theorem zhn {s : St} {v : Sv} (hb : v.busy = true) (hp : v.plan = []) : zaM s v = (zb5 s v.now v.says,zbP v.gen v.box,zcg ⟨v.now.client,v.now.token,v.says⟩,0):=by
 unfold zaM
 rw [if_pos hb,hp]
theorem zi1 {s : St} {v : Sv} (hb : v.busy = false) (hp : v.box = []) : zaM s v = (s,v,[],12):=by
 unfold zaM
 rw [if_neg (by simp [hb]),hp]
theorem serve_take {s : St} {v : Sv} {r : Rq} {rest : List (List UInt8)} (hb : v.busy = false) (hp : v.box = zcH r :: rest) (hr : zbC r = 0) :
  zaM s v = if (lastAn s.answers r.client).2 = true /\ r.token <= (lastAn s.answers r.client).1.token then
   if (lastAn s.answers r.client).1.token = r.token then (s,{ v with box:=rest },zcg (lastAn s.answers r.client).1,0) else (s,{ v with box:=rest },[],0)
   else (s,{ v with box:=rest,busy:=true,now:=r,plan:=zbm (zbS s.cells) r.call,says:=(zbq (zbS s.cells) r.call).2 },[],0):=by
 unfold zaM
 rw [if_neg (by simp [hb]),hp]
 simp only [zml hr]
 rw [if_neg (by simp)]
theorem zj7 (s : St) (q : Int × Int) (rest : List (Int × Int)) : zaH (zax s q).cells rest = zaH s.cells (q :: rest):=by
 unfold zax
 by_cases h : 0 <= q.1 /\ q.1 < (s.cells.length : Int)
 ·rw [if_pos h]; rfl
 ·rw [if_neg h]
  show zaH s.cells rest = zaH (zdc s.cells q) rest
  rw [show zdc s.cells q = s.cells by unfold zdc; rw [if_neg h]]

theorem zkk {a : An} (h0 : 0 <= a.client) (h1 : a.client < 3) : (((zcg a).getD 1 0).toNat : Int) = a.client:=zci h0 (by omega)

theorem zmw {l : List (List Cl)} (hl : zbJ l) {m : Mc} {ks : List Nat} {bz : Option Nat} (h : MInv l m ks bz) (n : Int) : ∃ ks' bz',MInv l (doM m 2 n).1 ks' bz':=by
 unfold doM
 rw [if_neg (by decide),if_pos rfl]
 by_cases hu : m.up = true
 case neg=>rw [if_pos hu]; exact ⟨ks,bz,h⟩
 rw [if_neg (fun x=>x hu)]
 have hokn:=zgT hl h.past
 have h3:=hl.1
 cases bz with
 | some i =>
  have hbusy : m.server.busy = true:=h.busy
  obtain ⟨hi,w2,w3,w4,w5⟩:=h.work i rfl
  obtain ⟨c,hc⟩ : ∃ c,m.clients[i]? = some c:=⟨_,List.getElem?_eq_getElem (by rw [h.nc]; exact hi)⟩
  have ci:=h.clients i c hc
  rw [zec hc] at w2
  cases hp : m.server.plan with
  | cons q rest =>
   rw [zhL hbusy hp]
   simp only []
   rw [if_neg (by simp),if_neg (by simp)]
   refine ⟨ks,some i,?_⟩
   have hbk:=zlP m.store q
   have hcells : zaH (zax m.store q).cells (zax m.store q).undo = zaH m.store.cells m.store.undo:=congrArg St.cells hbk
   have hpast : (zax m.store q).past = m.store.past:=by unfold zax; split <;> rfl
   have hansw : (zax m.store q).answers = m.store.answers:=by unfold zax; split <;> rfl
   have hund : ∀ x ∈ (zax m.store q).undo,0 <= x.1 /\ x.1 <= 10:=by
    intro x hx
    unfold zax at hx
    split at hx
    ·rename_i hr
     have hx' : x ∈ (q.1,m.store.cells.getD q.1.toNat 0) :: m.store.undo:=hx
     rcases List.mem_cons.1 hx' with rfl | hx'
     ·have:=h.cells; simp only []; omega
     ·exact h.undo x hx'
    ·exact h.undo x hx
   exact {
    nc:=h.nc
    nodup:=h.nodup
    ksl:=h.ksl
    box:=h.box
    busy:=h.busy
    idle:=fun x=>by cases x
    work:=fun j hj=>by
     obtain ⟨v1,v2,v3,v4,v5⟩:=h.work j hj
     refine ⟨v1,v2,?_,?_,?_⟩
     ·show m.server.says = (zbq (zdQ (zax m.store q).past) m.server.now.call).2
      rw [hpast]; exact v3
     ·show zaH (zax m.store q).cells rest = zaH (zaH (zax m.store q).cells (zax m.store q).undo) (zbm (zdQ (zax m.store q).past) m.server.now.call)
      rw [zj7,hcells,hpast,<- hp]; exact v4
     ·show rest.length <= 3
      rw [hp] at v5; simp at v5; omega
    down:=fun x=>absurd x (by simp [hu])
    upp:=h.upp
    clean:=fun _ x=>by cases x
    cells:=by show (zax m.store q).cells.length = 11; rw [zkj]; exact h.cells
    right:=by show zep (zaH (zax m.store q).cells (zax m.store q).undo) = 0; rw [hcells]; exact h.right
    nm:=by show zbS (zaH (zax m.store q).cells (zax m.store q).undo) = zdQ (zax m.store q).past; rw [hcells,hpast]; exact h.nm
    undo:=hund
    past:=by show ziL l (zax m.store q).past; rw [hpast]; exact h.past
    falls:=h.falls
    gens:=h.gens
    clients:=fun k d hd=>by
     show CInv l (zax m.store q).past (zax m.store q).answers m.server.gen m.up ks (some i) k d
     rw [hpast,hansw]
     exact h.clients k d hd }
  | nil =>
   rw [zhn hbusy hp]
   have hph : i ∉ ks /\ c.sent = true /\ c.gen = m.server.gen /\ c.box = [] /\ c.got.length < (l.getD i []).length /\ (zcZ m.store.past i).length = c.got.length:=by
    cases ci.phase with
    | rest a b=>exact absurd rfl b
    | wait a b=>exact absurd rfl b
    | work a b d e f g k=>exact ⟨a,d,e,f,g,k⟩
    | hear a b=>exact absurd rfl b
    | lost a b=>exact absurd rfl b
   obtain ⟨p1,p2,p3,p4,p5,p6⟩:=hph
   have hcall:=zfz hl hi p5
   have hcl : m.server.now.client = (i : Int):=by rw [w2]; rfl
   have htk : m.server.now.token = (c.got.length : Int):=by rw [w2]; rfl
   have hne : zcg ⟨m.server.now.client,m.server.now.token,m.server.says⟩ ≠ []:=by simp [zcg]
   have hto : ((zcg ⟨m.server.now.client,m.server.now.token,m.server.says⟩).getD 1 0).toNat = i:=by
    have:=zkk (a:=⟨m.server.now.client,m.server.now.token,m.server.says⟩) (by show 0 <= m.server.now.client; rw [hcl]; omega) (by show m.server.now.client < 3; rw [hcl]; omega)
    rw [hcl] at this ⊢
    have this2 : (((zcg ⟨(i : Int),m.server.now.token,m.server.says⟩).getD 1 0).toNat : Int) = (i : Int):=this
    omega
   simp only []
   rw [if_neg (by simp),if_pos hne,hto,if_pos (by rw [h.nc]; exact hi)]
   have hgd : m.clients.getD i (zb8 []) = c:=by rw [List.getD_eq_getElem?_getD,hc]; rfl
   rw [hgd]
   have hcome : zcC c (zcg ⟨m.server.now.client,m.server.now.token,m.server.says⟩) = { c with box:=[zcg ⟨m.server.now.client,m.server.now.token,m.server.says⟩] }:=by
    unfold zcC
    rw [p4]
    rfl
   rw [hcome]
   refine ⟨ks,none,?_⟩
   -- what cells are now
   have hcells : m.store.cells = zaH (zaH m.store.cells m.store.undo) (zbm (zbS (zaH m.store.cells m.store.undo)) m.server.now.call):=by
    rw [hp] at w4
    rw [h.nm]
    exact w4
   have hpm:=zma (c:=m.server.now.call) h.right (by rw [w2]; exact hcall)
   have hpm1 : zep m.store.cells = 0:=by rw [hcells]; exact hpm.1
   have hpm2 : zbS m.store.cells = (zbq (zdQ m.store.past) m.server.now.call).1:=by
    have h2 : zbS (zaH (zaH m.store.cells m.store.undo) (zbm (zbS (zaH m.store.cells m.store.undo)) m.server.now.call)) = (zbq (zbS (zaH m.store.cells m.store.undo)) m.server.now.call).1:=hpm.2
    rw [<- hcells,h.nm] at h2
    exact h2
   have hmi : zcZ (m.store.past ++ [m.server.now]) i = zcZ m.store.past i ++ [m.server.now]:=by rw [zjS,if_pos hcl]
   have hti : zcX (m.store.past ++ [m.server.now]) i = zcX m.store.past i ++ [m.server.says]:=by rw [zhE,if_pos hcl,<- w3]
   have htl:=zg0 m.store.past i
   have hgn : ∀ k,zdi (m.clients.set i { c with box:=[zcg ⟨m.server.now.client,m.server.now.token,m.server.says⟩] }) k = zdi m.clients k:=fun k=>zgX (c':={ c with box:=[zcg ⟨m.server.now.client,m.server.now.token,m.server.says⟩] }) hc rfl k
   exact {
    nc:=by show (m.clients.set i _).length = _; rw [List.length_set]; exact h.nc
    nodup:=h.nodup
    ksl:=h.ksl
    box:=by show m.server.box = _; rw [h.box]; simp only [hgn]
    busy:=rfl
    idle:=fun _=>rfl
    work:=fun j hj=>by cases hj
    down:=fun x=>absurd x (by simp [hu])
    upp:=h.upp
    clean:=fun _ _=>rfl
    cells:=h.cells
    right:=hpm1
    nm:=by show zbS m.store.cells = zdQ (m.store.past ++ [m.server.now]); rw [zl0]; exact hpm2
    undo:=fun q hq=>by cases hq
    past:=fun r hr=>by
     have hr' : r ∈ m.store.past ++ [m.server.now]:=hr
     rcases List.mem_append.1 hr' with hr' | hr'
     ·exact h.past r hr'
     ·simp at hr'
      exact ⟨i,c.got.length,hi,p5,by rw [hr',w2]⟩
    falls:=h.falls
    gens:=h.gens
    clients:=fun k d hd=>by
     show CInv l (m.store.past ++ [m.server.now]) (zb2 m.store.answers ⟨m.server.now.client,m.server.now.token,m.server.says⟩) m.server.gen m.up ks none k d
     rcases zkp hc hd with ⟨rfl,rfl⟩ | ⟨hne2,hd⟩
     ·have hml : (zcZ (m.store.past ++ [m.server.now]) k).length = c.got.length + 1:=by rw [hmi,List.length_append,p6]; rfl
      have hta : (zcX (m.store.past ++ [m.server.now]) k).getD c.got.length ⟨0,0⟩ = m.server.says:=by
       rw [hti,List.getD_eq_getElem?_getD,List.getElem?_append_right (by omega),show c.got.length - (zcX m.store.past k).length = 0 by omega]
       rfl
      refine ⟨ci.calls,ci.at_,?_,by rw [hml]; omega,?_,.inr hml,?_,ci.hgen,.hear p1 (by simp) p2 hml ?_⟩
      ·rw [hml,List.range_succ,List.map_append,hmi,ci.done,p6,w2]
       simp
      ·show c.got = _
       rw [hti,List.take_append_of_le_length (show c.got.length <= (zcX m.store.past k).length by omega)]
       exact ci.got
      ·rw [hml,if_neg (by omega),Nat.add_sub_cancel,hta]
       have:=zlH m.store.answers ⟨m.server.now.client,m.server.now.token,m.server.says⟩
       rw [hcl,htk] at this ⊢
       exact this
      ·show [zcg ⟨m.server.now.client,m.server.now.token,m.server.says⟩] = _
       rw [hta,hcl,htk]
     ·have hkc : m.server.now.client ≠ (k : Int):=by rw [hcl]; omega
      refine (h.clients k d hd).other (by rw [zjS,if_neg hkc]) (by rw [zhE,if_neg hkc]) (zlT _ _ _ (fun e=>hkc e.symm)) Iff.rfl ?_
      simp
      exact fun e=>hne2 e.symm }
 | none =>
  have hbusy : m.server.busy = false:=h.busy
  have hsv:=h.idle rfl
  have hundo:=h.clean hu rfl
  cases ks with
  | nil =>
   rw [zi1 hbusy (by rw [h.box]; rfl)]
   exact ⟨[],none,h⟩
  | cons k ks =>
   have hk : k < l.length:=h.ksl k (by simp)
   obtain ⟨c,hc⟩ : ∃ c,m.clients[k]? = some c:=⟨_,List.getElem?_eq_getElem (by rw [h.nc]; exact hk)⟩
   have ci:=h.clients k c hc
   have hph : c.sent = true /\ c.gen = m.server.gen /\ c.box = [] /\ c.got.length < (l.getD k []).length:=by
    cases ci.phase with
    | rest a=>exact absurd (by simp) a
    | wait a b d e f g=>exact ⟨d,e,f,g⟩
    | work a=>exact absurd (by simp) a
    | hear a=>exact absurd (by simp) a
    | lost a=>exact absurd (by simp) a
   obtain ⟨p2,p3,p4,p5⟩:=hph
   have hbox : m.server.box = zcH (zcp l k c.got.length) :: ks.map (fun k=>zcH (zcp l k (zdi m.clients k))):=by
    rw [h.box,List.map_cons,zec hc]
   have hnd:=List.nodup_cons.1 h.nodup
   have hstep:=ci.step
   have hlast:=ci.last
   have htl:=zg0 m.store.past k
   have hS:=serve_take (s:=m.store) hbusy hbox (zhw hl hk p5)
   have hrc : (zcp l k c.got.length).client = (k : Int):=rfl
   have hrt : (zcp l k c.got.length).token = (c.got.length : Int):=rfl
   rw [hrc,hrt,hlast] at hS
   by_cases hd : (zcZ m.store.past k).length = c.got.length + 1
   ·-- it was done: the same answer again
    rw [if_neg (show ¬ (zcZ m.store.past k).length = 0 by omega),hd,Nat.add_sub_cancel] at hS
    rw [if_pos (by exact ⟨rfl,Int.le_refl _⟩),if_pos (by rfl)] at hS
    rw [hS]
    simp only []
    have hne : zcg ⟨(k : Int),(c.got.length : Int),(zcX m.store.past k).getD c.got.length ⟨0,0⟩⟩ ≠ []:=by simp [zcg]
    have hto : ((zcg ⟨(k : Int),(c.got.length : Int),(zcX m.store.past k).getD c.got.length ⟨0,0⟩⟩).getD 1 0).toNat = k:=by
     have:=zkk (a:=⟨(k : Int),(c.got.length : Int),(zcX m.store.past k).getD c.got.length ⟨0,0⟩⟩) (by show (0 : Int) <= k; omega) (by show (k : Int) < 3; omega)
     have this2 : (((zcg ⟨(k : Int),(c.got.length : Int),(zcX m.store.past k).getD c.got.length ⟨0,0⟩⟩).getD 1 0).toNat : Int) = (k : Int):=this
     omega
    rw [if_neg (by simp),if_pos hne,hto,if_pos (by rw [h.nc]; exact hk)]
    have hgd : m.clients.getD k (zb8 []) = c:=by rw [List.getD_eq_getElem?_getD,hc]; rfl
    rw [hgd]
    have hcome : zcC c (zcg ⟨(k : Int),(c.got.length : Int),(zcX m.store.past k).getD c.got.length ⟨0,0⟩⟩) = { c with box:=[zcg ⟨(k : Int),(c.got.length : Int),(zcX m.store.past k).getD c.got.length ⟨0,0⟩⟩] }:=by
     unfold zcC
     rw [p4]
     rfl
    rw [hcome]
    have hgn : ∀ j,zdi (m.clients.set k { c with box:=[zcg ⟨(k : Int),(c.got.length : Int),(zcX m.store.past k).getD c.got.length ⟨0,0⟩⟩] }) j = zdi m.clients j:=fun j=>zgX (c':={ c with box:=[zcg ⟨(k : Int),(c.got.length : Int),(zcX m.store.past k).getD c.got.length ⟨0,0⟩⟩] }) hc rfl j
    refine ⟨ks,none,?_⟩
    exact {
     nc:=by show (m.clients.set k _).length = _; rw [List.length_set]; exact h.nc
     nodup:=hnd.2
     ksl:=fun j hj=>h.ksl j (by simp [hj])
     box:=by show ks.map (fun k=>zcH (zcp l k (zdi m.clients k))) = _; simp only [hgn]
     busy:=h.busy
     idle:=fun _=>by
      show ({ m.server with box:=ks.map (fun k=>zcH (zcp l k (zdi m.clients k))) } : Sv) = zbP m.server.gen _
      rw [hsv]; rfl
     work:=fun j hj=>by cases hj
     down:=fun x=>absurd x (by simp [hu])
     upp:=h.upp
     clean:=h.clean
     cells:=h.cells
     right:=h.right
     nm:=h.nm
     undo:=h.undo
     past:=h.past
     falls:=h.falls
     gens:=h.gens
     clients:=fun j d hj=>by
      rcases zkp hc hj with ⟨rfl,rfl⟩ | ⟨hne2,hj⟩
      ·exact ⟨ci.calls,ci.at_,ci.done,ci.most,ci.got,ci.step,ci.last,ci.hgen,.hear hnd.1 (by simp) p2 hd rfl⟩
      ·refine (h.clients j d hj).other rfl rfl rfl ?_ Iff.rfl
       simp [hne2] }
   ·-- it is new
    have hd0 : (zcZ m.store.past k).length = c.got.length:=by omega
    have hnot : ¬ ((if (zcZ m.store.past k).length = 0 then (zeroAn,false) else (⟨k,((zcZ m.store.past k).length - 1 : Nat),(zcX m.store.past k).getD ((zcZ m.store.past k).length - 1) ⟨0,0⟩⟩,true)).2 = true /\
      (c.got.length : Int) <= (if (zcZ m.store.past k).length = 0 then (zeroAn,false) else ((⟨k,((zcZ m.store.past k).length - 1 : Nat),(zcX m.store.past k).getD ((zcZ m.store.past k).length - 1) ⟨0,0⟩⟩ : An),true)).1.token):=by
     by_cases hz : (zcZ m.store.past k).length = 0
     ·rw [if_pos hz]; simp
     ·rw [if_neg hz]
      simp only [true_and]
      omega
    rw [if_neg hnot] at hS
    rw [hS]
    simp only []
    rw [if_neg (by simp),if_neg (by simp)]
    refine ⟨ks,some k,?_⟩
    have hnames : zbS m.store.cells = zdQ m.store.past:=by have:=h.nm; rw [hundo] at this; exact this
    exact {
     nc:=h.nc
     nodup:=hnd.2
     ksl:=fun j hj=>h.ksl j (by simp [hj])
     box:=rfl
     busy:=rfl
     idle:=fun x=>by cases x
     work:=fun j hj=>by
      obtain rfl : k = j:=by simpa using hj
      refine ⟨hk,?_,?_,?_,?_⟩
      ·show zcp l k c.got.length = zcp l k (zdi m.clients k); rw [zec hc]
      ·show (zbq (zbS m.store.cells) (zcp l k c.got.length).call).2 = (zbq (zdQ m.store.past) (zcp l k c.got.length).call).2; rw [hnames]
      ·show zaH m.store.cells (zbm (zbS m.store.cells) (zcp l k c.got.length).call) = zaH (zaH m.store.cells m.store.undo) (zbm (zdQ m.store.past) (zcp l k c.got.length).call)
       rw [hundo,hnames]; rfl
      ·exact zoc _ _
     down:=fun x=>absurd x (by simp [hu])
     upp:=h.upp
     clean:=fun _ x=>by cases x
     cells:=h.cells
     right:=h.right
     nm:=h.nm
     undo:=h.undo
     past:=h.past
     falls:=h.falls
     gens:=h.gens
     clients:=fun j d hj=>by
      by_cases e : j = k
      ·subst e
       obtain rfl : c = d:=by rw [hc] at hj; exact Option.some.inj hj
       exact ⟨ci.calls,ci.at_,ci.done,ci.most,ci.got,ci.step,ci.last,ci.hgen,.work hnd.1 rfl p2 p3 p4 p5 hd0⟩
      ·refine (h.clients j d hj).other rfl rfl rfl ?_ ?_
       ·simp [e]
       ·simp; exact fun x=>e x.symm }

theorem zpG {l : List (List Cl)} (hl : zbJ l) {m : Mc} {ks : List Nat} {bz : Option Nat} (h : MInv l m ks bz) (kind n : Int) : ∃ ks' bz',MInv l (doM m kind n).1 ks' bz':=by
 by_cases h1 : kind = 1
 ·subst h1; exact zmr hl h n
 by_cases h2 : kind = 2
 ·subst h2; exact zmw hl h n
 unfold doM
 rw [if_neg h1,if_neg h2]
 by_cases h3 : kind = 3
 ·rw [if_pos h3]; exact znU h
 rw [if_neg h3]
 by_cases h4 : kind = 4
 ·rw [if_pos h4]; exact zn0 h
 ·rw [if_neg h4]; exact ⟨ks,bz,h⟩
theorem zn2 {l : List (List Cl)} (hl : zbJ l) (steps : List (Int × Int)) {m : Mc} {ks : List Nat} {bz : Option Nat} (h : MInv l m ks bz) : ∃ ks' bz',MInv l (zek m steps) ks' bz':=by
 induction steps generalizing m ks bz with
 | nil=>exact ⟨ks,bz,h⟩
 | cons s steps ih =>
  obtain ⟨ks',bz',h'⟩:=zpG hl h s.1 s.2
  exact ih h'
theorem zmH {l : List (List Cl)} (hl : zbJ l) (steps : List (Int × Int)) : ∃ ks bz,MInv l (zek (zbB l) steps) ks bz:=zn2 hl steps (zpx l)

open Go Go.RowKit

structure SizeM (m : Mc) (k : Nat) : Prop where
 undo : m.store.undo.length <= k
 answers : m.store.answers.length <= k
 past : m.store.past.length <= k
 box : m.server.box.length <= k
 each : ∀ c ∈ m.clients,c.got.length <= k /\ c.box.length <= k

theorem SizeM.mono {m : Mc} {k j : Nat} (h : SizeM m k) (hk : k <= j) : SizeM m j :=
 ⟨Nat.le_trans h.undo hk,Nat.le_trans h.answers hk,Nat.le_trans h.past hk,Nat.le_trans h.box hk,fun c hc=>⟨Nat.le_trans (h.each c hc).1 hk,Nat.le_trans (h.each c hc).2 hk⟩⟩
theorem zlr (l : List (List Cl)) : SizeM (zbB l) 0:=⟨Nat.le_refl _,Nat.le_refl _,Nat.le_refl _,Nat.le_refl _,fun c hc=>by
 have hc' : c ∈ l.map zb8:=hc
 obtain ⟨x,_,rfl⟩:=List.mem_map.1 hc'
 exact ⟨Nat.le_refl _,Nat.le_refl _⟩⟩

theorem zl6 (s : St) (p : Int × Int) : (zax s p).undo.length <= s.undo.length + 1 /\ (zax s p).answers = s.answers /\ (zax s p).past = s.past:=by
 unfold zax
 split
 ·exact ⟨by simp,rfl,rfl⟩
 ·exact ⟨by omega,rfl,rfl⟩

theorem zmn {s : St} {v : Sv} {k : Nat} (h1 : s.undo.length <= k) (h2 : s.answers.length <= k) (h3 : s.past.length <= k) (h4 : v.box.length <= k) :
  (zaM s v).1.undo.length <= k + 1 /\ (zaM s v).1.answers.length <= k + 1 /\ (zaM s v).1.past.length <= k + 1 /\ (zaM s v).2.1.box.length <= k:=by
 unfold zaM
 split
 ·split
  ·rename_i p l _
   obtain ⟨w1,w2,w3⟩:=zl6 s p
   refine ⟨by simp only []; omega,by simp only [w2]; omega,by simp only [w3]; omega,h4⟩
  ·have:=zkd s.answers ⟨v.now.client,v.now.token,v.says⟩
   refine ⟨by simp [zb5],by simp only [zb5]; omega,by simp only [zb5,List.length_append,List.length_cons,List.length_nil]; omega,h4⟩
 ·split
  ·exact ⟨by simp only []; omega,by simp only []; omega,by simp only []; omega,h4⟩
  ·rename_i b l hb
   rw [hb] at h4
   have h5 : l.length <= k:=by simp only [List.length_cons] at h4; omega
   dsimp only
   repeat' split
   all_goals exact ⟨by simp only []; omega,by simp only []; omega,by simp only []; omega,h5⟩

theorem zo4 {c : Cn} {k : Nat} (me gen : Int) (up : Bool) (h1 : c.got.length <= k) (h2 : c.box.length <= k) : (zcW c me gen up).1.got.length <= k + 1 /\ (zcW c me gen up).1.box.length <= k + 1:=by
 unfold zcW
 split
 ·rename_i b l hb
  rw [hb] at h2
  have h5 : l.length <= k:=by simp only [List.length_cons] at h2; omega
  dsimp only
  split
  ·exact ⟨by simp only [List.length_append,List.length_cons,List.length_nil]; omega,by simp only []; omega⟩
  ·exact ⟨by simp only []; omega,by simp only []; omega⟩
 ·repeat' split
  all_goals exact ⟨by simp only []; omega,by simp only []; omega⟩

theorem zna (v : Sv) (b : List UInt8) {k : Nat} (h : v.box.length <= k) : (zcn v b).1.box.length <= k + 1:=by
 unfold zcn
 split
 ·simp only []; omega
 ·simp only [List.length_append,List.length_cons,List.length_nil]; omega
theorem znq (c : Cn) (b : List UInt8) {k : Nat} (h1 : c.got.length <= k) (h2 : c.box.length <= k) : (zcC c b).got.length <= k + 1 /\ (zcC c b).box.length <= k + 1:=by
 unfold zcC
 split
 ·exact ⟨by simp only []; omega,by simp only [List.length_append,List.length_cons,List.length_nil]; omega⟩
 ·omega
theorem zig {cl : List Cn} {k : Nat} (h : ∀ c ∈ cl,c.got.length <= k /\ c.box.length <= k) (i : Nat) {x : Cn} (hx : x.got.length <= k + 1 /\ x.box.length <= k + 1) : ∀ c ∈ cl.set i x,c.got.length <= k + 1 /\ c.box.length <= k + 1:=fun c hc=>by
 rcases List.mem_or_eq_of_mem_set hc with h1 | rfl
 ·have:=h c h1; omega
 ·exact hx
theorem zlI {cl : List Cn} {k : Nat} (h : ∀ c ∈ cl,c.got.length <= k /\ c.box.length <= k) (i : Nat) : (cl.getD i (zb8 [])).got.length <= k /\ (cl.getD i (zb8 [])).box.length <= k:=by
 by_cases hi : i < cl.length
 ·exact h _ (zjb hi)
 ·rw [List.getD_eq_getElem?_getD,List.getElem?_eq_none (by omega)]
  exact ⟨Nat.zero_le _,Nat.zero_le _⟩

theorem zpm {m : Mc} {k : Nat} (h : SizeM m k) (kind n : Int) : SizeM (doM m kind n).1 (k + 1):=by
 have hm:=h.mono (Nat.le_succ k)
 unfold doM
 split
 ·split
  ·exact hm
  ·dsimp only
   have hg:=zlI h.each n.toNat
   have hgo:=zo4 n m.server.gen m.up hg.1 hg.2
   split
   ·exact hm
   ·split
    ·split
     ·exact hm
     ·exact ⟨hm.undo,hm.answers,hm.past,zna _ _ h.box,zig h.each _ hgo⟩
    ·exact ⟨hm.undo,hm.answers,hm.past,hm.box,zig h.each _ hgo⟩
 ·split
  ·split
   ·exact hm
   ·dsimp only
    obtain ⟨s1,s2,s3,s4⟩:=zmn h.undo h.answers h.past h.box
    split
    ·exact hm
    ·split
     ·split
      ·have hg:=zlI h.each ((zaM m.store m.server).2.2.1.getD 1 0).toNat
       exact ⟨s1,s2,s3,Nat.le_succ_of_le s4,zig h.each _ (znq _ _ hg.1 hg.2)⟩
      ·exact ⟨s1,s2,s3,Nat.le_succ_of_le s4,hm.each⟩
     ·exact ⟨s1,s2,s3,Nat.le_succ_of_le s4,hm.each⟩
  ·split
   ·unfold zc6
    split
    ·exact hm
    ·split
     ·exact hm
     ·exact ⟨hm.undo,hm.answers,hm.past,Nat.zero_le _,hm.each⟩
   ·split
    ·unfold zeG
     split
     ·exact hm
     ·split
      ·exact ⟨hm.undo,hm.answers,hm.past,hm.box,hm.each⟩
      ·exact ⟨Nat.zero_le _,hm.answers,hm.past,Nat.zero_le _,hm.each⟩
    ·exact hm
open Go Go.RowKit

theorem zjQ {m : Mc} {k : Nat} (h : SizeM m k) : ∀ steps : List (Int × Int),SizeM (zek m steps) (k + steps.length):=fun steps=>by
 unfold zek
 induction steps generalizing m k with
 | nil=>exact h
 | cons p l ih =>
  have:=ih (zpm h p.1 p.2)
  rw [List.length_cons,show k + (l.length + 1) = k + 1 + l.length by omega]
  exact this

open Go Go.RowKit

open Go Go.RowKit

def zf5 : List Cl -> Int
 | []=>0
 | x :: l=>if wrongCl x ≠ 0 then wrongCl x else zf5 l
def errL : List (List Cl) -> Int
 | []=>0
 | c :: l=>if 8 < c.length then 4 else if zf5 c ≠ 0 then zf5 c else errL l
def zfR (l : List (List Cl)) : Int:=if 3 < l.length then 5 else errL l

theorem zhu : ∀ {c : List Cl},(∀ y ∈ c,wrongCl y = 0) -> zf5 c = 0
 | [],_=>rfl
 | x :: l,h=>by
  unfold zf5
  rw [if_neg (by simp [h x (by simp)])]
  exact zhu fun y hy=>h y (by simp [hy])
theorem zjO : ∀ {c : List Cl} {q : Nat} {y : Cl},(∀ (j : Nat) (z : Cl),j < q -> c[j]? = some z -> wrongCl z = 0) -> c[q]? = some y -> wrongCl y ≠ 0 -> zf5 c = wrongCl y
 | [],q,y,_,hy,_=>by simp at hy
 | x :: l,0,y,_,hy,hw=>by
  simp at hy
  subst hy
  unfold zf5
  rw [if_pos hw]
 | x :: l,q + 1,y,h,hy,hw=>by
  unfold zf5
  rw [if_neg (by simp [h 0 x (by omega) rfl])]
  exact zjO (q:=q) (fun j z hj hz=>h (j + 1) z (by omega) (by simpa using hz)) (by simpa using hy) hw
theorem zmJ : ∀ {l : List (List Cl)},(∀ c ∈ l,c.length <= 8 /\ ∀ x ∈ c,wrongCl x = 0) -> errL l = 0
 | [],_=>rfl
 | c :: l,h=>by
  obtain ⟨h1,h2⟩:=h c (by simp)
  unfold errL
  rw [if_neg (by omega),if_neg (by simp [zhu h2])]
  exact zmJ fun d hd=>h d (by simp [hd])
theorem zkq : ∀ {l : List (List Cl)} {k : Nat} {x : List Cl},(∀ (j : Nat) (y : List Cl),j < k -> l[j]? = some y -> y.length <= 8 /\ ∀ z ∈ y,wrongCl z = 0) -> l[k]? = some x -> errL l = errL (x :: l.drop (k + 1))
 | [],k,x,_,hx=>by simp at hx
 | c :: l,0,x,_,hx=>by
  simp at hx
  subst hx
  rfl
 | c :: l,k + 1,x,h,hx=>by
  obtain ⟨h1,h2⟩:=h 0 c (by omega) rfl
  have ih:=zkq (l:=l) (k:=k) (x:=x) (fun j y hj hy=>h (j + 1) y (by omega) (by simpa using hy)) (by simpa using hx)
  rw [errL,if_neg (by omega),if_neg (by simp [zhu h2]),ih]
  rfl
theorem zjF {l : List (List Cl)} (h : 3 < l.length) : zfR l = 5:=if_pos h
theorem zjI {l : List (List Cl)} (h3 : ¬ 3 < l.length) {k : Nat} {x : List Cl} (h : ∀ (j : Nat) (y : List Cl),j < k -> l[j]? = some y -> y.length <= 8 /\ ∀ z ∈ y,wrongCl z = 0) (hx : l[k]? = some x) (h8 : 8 < x.length) : zfR l = 4:=by
 unfold zfR
 rw [if_neg h3,zkq h hx,errL,if_pos h8]
theorem zjJ {l : List (List Cl)} (h3 : ¬ 3 < l.length) {k q : Nat} {x : List Cl} {y : Cl} (h : ∀ (j : Nat) (y : List Cl),j < k -> l[j]? = some y -> y.length <= 8 /\ ∀ z ∈ y,wrongCl z = 0) (hx : l[k]? = some x) (h8 : ¬ 8 < x.length) (ha : ∀ (j : Nat) (z : Cl),j < q -> x[j]? = some z -> wrongCl z = 0) (hy : x[q]? = some y) (hw : wrongCl y ≠ 0) : zfR l = wrongCl y:=by
 have hf:=zjO ha hy hw
 unfold zfR
 rw [if_neg h3,zkq h hx,errL,if_neg h8,if_pos (by rw [hf]; exact hw),hf]
theorem ziO {l : List (List Cl)} (h : zbJ l) : zfR l = 0:=by
 unfold zfR
 rw [if_neg (by have:=h.1; omega)]
 exact zmJ h.2
end Go.Mk

/- Texts of the proof, merged: Math13 Math25 Math21 Math22 Math23 Math26 Mem11 Math14 Math15 Math16 Math17. -/
import Derived.Test.YtikbhmnjlmbeeafGreatKRA
import Derived.Test.YtikbhmnjlmbeeafGreatKRG
import Derived.Test.YtikbhmnjlmbeeafGreatKRD
import Derived.Test.YtikbhmnjlmbeeafGreatKRF

namespace Go.Mk
open Go Go.RowKit

theorem zhU {s : St} {v : Sv} {q : Int × Int} {rest : List (Int × Int)} (hb : v.busy = true) (hp : v.plan = q :: rest) : zaL s v = (zaw s q,{ v with plan:=rest },[],0):=by
 unfold zaL
 rw [if_pos hb,hp]
theorem zhr {s : St} {v : Sv} (hb : v.busy = true) (hp : v.plan = []) : zaL s v = (zb6 s v.now v.says,zbG v.gen v.box,zci ⟨v.now.client,v.now.token,v.says⟩,0):=by
 unfold zaL
 rw [if_pos hb,hp]
theorem ziz {s : St} {v : Sv} (hb : v.busy = false) (hp : v.box = []) : zaL s v = (s,v,[],12):=by
 unfold zaL
 rw [if_neg (by simp [hb]),hp]
theorem serve_take {s : St} {v : Sv} {r : Rq} {rest : List (List UInt8)} (hb : v.busy = false) (hp : v.box = zcp r :: rest) (hr : zbD r = 0) :
  zaL s v = if (lastAn s.answers r.client).2 = true /\ r.token <= (lastAn s.answers r.client).1.token then
   if (lastAn s.answers r.client).1.token = r.token then (s,{ v with box:=rest },zci (lastAn s.answers r.client).1,0) else (s,{ v with box:=rest },[],0)
   else (s,{ v with box:=rest,busy:=true,now:=r,plan:=zbm (zbO s.cells) r.call,says:=(zbq (zbO s.cells) r.call).2 },[],0):=by
 unfold zaL
 rw [if_neg (by simp [hb]),hp]
 simp only [zie hr]
 rw [if_neg (by simp)]
theorem zkt (s : St) (q : Int × Int) (rest : List (Int × Int)) : zaH (zaw s q).cells rest = zaH s.cells (q :: rest):=by
 unfold zaw
 by_cases h : 0 <= q.1 /\ q.1 < (s.cells.length : Int)
 ·rw [if_pos h]; rfl
 ·rw [if_neg h]
  show zaH s.cells rest = zaH (zdf s.cells q) rest
  rw [show zdf s.cells q = s.cells by unfold zdf; rw [if_neg h]]

theorem zkG {a : An} (h0 : 0 <= a.client) (h1 : a.client < 3) : (((zci a).getD 1 0).toNat : Int) = a.client:=zcj h0 (by omega)

theorem zl1 {l : List (List Cl)} (hl : zbF l) {m : Mc} {ks : List Nat} {bz : Option Nat} (h : MInv l m ks bz) (n : Int) : ∃ ks' bz',MInv l (doM m 2 n).1 ks' bz':=by
 unfold doM
 rw [if_neg (by decide),if_pos rfl]
 by_cases hu : m.up = true
 case neg=>rw [if_pos hu]; exact ⟨ks,bz,h⟩
 rw [if_neg (fun x=>x hu)]
 have hokn:=zgL hl h.past
 have h3:=hl.1
 cases bz with
 | some i =>
  have hbusy : m.server.busy = true:=h.busy
  obtain ⟨hi,w2,w3,w4,w5⟩:=h.work i rfl
  obtain ⟨c,hc⟩ : ∃ c,m.clients[i]? = some c:=⟨_,List.getElem?_eq_getElem (by rw [h.nc]; exact hi)⟩
  have ci:=h.clients i c hc
  rw [zeb hc] at w2
  cases hp : m.server.plan with
  | cons q rest =>
   rw [zhU hbusy hp]
   simp only []
   rw [if_neg (by simp),if_neg (by simp)]
   refine ⟨ks,some i,?_⟩
   have hbk:=zmk m.store q
   have hcells : zaH (zaw m.store q).cells (zaw m.store q).undo = zaH m.store.cells m.store.undo:=congrArg St.cells hbk
   have hpast : (zaw m.store q).past = m.store.past:=by unfold zaw; split <;> rfl
   have hansw : (zaw m.store q).answers = m.store.answers:=by unfold zaw; split <;> rfl
   have hund : ∀ x ∈ (zaw m.store q).undo,0 <= x.1 /\ x.1 <= 10:=by
    intro x hx
    unfold zaw at hx
    split at hx
    ·rename_i hr
     have hx' : x ∈ (q.1,m.store.cells.getD q.1.toNat 0) :: m.store.undo:=hx
     rcases List.mem_cons.1 hx' with rfl | hx'
     ·have:=h.cells; simp only []; omega
     ·exact h.undo x hx'
    ·exact h.undo x hx
   exact {
    nc:=h.nc
    nodup:=h.nodup
    ksl:=h.ksl
    box:=h.box
    busy:=h.busy
    idle:=fun x=>by cases x
    work:=fun j hj=>by
     obtain ⟨v1,v2,v3,v4,v5⟩:=h.work j hj
     refine ⟨v1,v2,?_,?_,?_⟩
     ·show m.server.says = (zbq (zdG (zaw m.store q).past) m.server.now.call).2
      rw [hpast]; exact v3
     ·show zaH (zaw m.store q).cells rest = zaH (zaH (zaw m.store q).cells (zaw m.store q).undo) (zbm (zdG (zaw m.store q).past) m.server.now.call)
      rw [zkt,hcells,hpast,<- hp]; exact v4
     ·show rest.length <= 3
      rw [hp] at v5; simp at v5; omega
    down:=fun x=>absurd x (by simp [hu])
    upp:=h.upp
    clean:=fun _ x=>by cases x
    cells:=by show (zaw m.store q).cells.length = 11; rw [zkB]; exact h.cells
    right:=by show zej (zaH (zaw m.store q).cells (zaw m.store q).undo) = 0; rw [hcells]; exact h.right
    nm:=by show zbO (zaH (zaw m.store q).cells (zaw m.store q).undo) = zdG (zaw m.store q).past; rw [hcells,hpast]; exact h.nm
    undo:=hund
    past:=by show zja l (zaw m.store q).past; rw [hpast]; exact h.past
    falls:=h.falls
    gens:=h.gens
    clients:=fun k d hd=>by
     show CInv l (zaw m.store q).past (zaw m.store q).answers m.server.gen m.up ks (some i) k d
     rw [hpast,hansw]
     exact h.clients k d hd }
  | nil =>
   rw [zhr hbusy hp]
   have hph : i ∉ ks /\ c.sent = true /\ c.gen = m.server.gen /\ c.box = [] /\ c.got.length < (l.getD i []).length /\ (zcR m.store.past i).length = c.got.length:=by
    cases ci.phase with
    | rest a b=>exact absurd rfl b
    | wait a b=>exact absurd rfl b
    | work a b d e f g k=>exact ⟨a,d,e,f,g,k⟩
    | hear a b=>exact absurd rfl b
    | lost a b=>exact absurd rfl b
   obtain ⟨p1,p2,p3,p4,p5,p6⟩:=hph
   have hcall:=zfF hl hi p5
   have hcl : m.server.now.client = (i : Int):=by rw [w2]; rfl
   have htk : m.server.now.token = (c.got.length : Int):=by rw [w2]; rfl
   have hne : zci ⟨m.server.now.client,m.server.now.token,m.server.says⟩ ≠ []:=by simp [zci]
   have hto : ((zci ⟨m.server.now.client,m.server.now.token,m.server.says⟩).getD 1 0).toNat = i:=by
    have:=zkG (a:=⟨m.server.now.client,m.server.now.token,m.server.says⟩) (by show 0 <= m.server.now.client; rw [hcl]; omega) (by show m.server.now.client < 3; rw [hcl]; omega)
    rw [hcl] at this ⊢
    have this2 : (((zci ⟨(i : Int),m.server.now.token,m.server.says⟩).getD 1 0).toNat : Int) = (i : Int):=this
    omega
   simp only []
   rw [if_neg (by simp),if_pos hne,hto,if_pos (by rw [h.nc]; exact hi)]
   have hgd : m.clients.getD i (zbY []) = c:=by rw [List.getD_eq_getElem?_getD,hc]; rfl
   rw [hgd]
   have hcome : zcs c (zci ⟨m.server.now.client,m.server.now.token,m.server.says⟩) = { c with box:=[zci ⟨m.server.now.client,m.server.now.token,m.server.says⟩] }:=by
    unfold zcs
    rw [p4]
    rfl
   rw [hcome]
   refine ⟨ks,none,?_⟩
   -- what cells are now
   have hcells : m.store.cells = zaH (zaH m.store.cells m.store.undo) (zbm (zbO (zaH m.store.cells m.store.undo)) m.server.now.call):=by
    rw [hp] at w4
    rw [h.nm]
    exact w4
   have hpm:=zlK (c:=m.server.now.call) h.right (by rw [w2]; exact hcall)
   have hpm1 : zej m.store.cells = 0:=by rw [hcells]; exact hpm.1
   have hpm2 : zbO m.store.cells = (zbq (zdG m.store.past) m.server.now.call).1:=by
    have h2 : zbO (zaH (zaH m.store.cells m.store.undo) (zbm (zbO (zaH m.store.cells m.store.undo)) m.server.now.call)) = (zbq (zbO (zaH m.store.cells m.store.undo)) m.server.now.call).1:=hpm.2
    rw [<- hcells,h.nm] at h2
    exact h2
   have hmi : zcR (m.store.past ++ [m.server.now]) i = zcR m.store.past i ++ [m.server.now]:=by rw [zjV,if_pos hcl]
   have hti : zcK (m.store.past ++ [m.server.now]) i = zcK m.store.past i ++ [m.server.says]:=by rw [zhJ,if_pos hcl,<- w3]
   have htl:=zfW m.store.past i
   have hgn : ∀ k,zdi (m.clients.set i { c with box:=[zci ⟨m.server.now.client,m.server.now.token,m.server.says⟩] }) k = zdi m.clients k:=fun k=>zgP (c':={ c with box:=[zci ⟨m.server.now.client,m.server.now.token,m.server.says⟩] }) hc rfl k
   exact {
    nc:=by show (m.clients.set i _).length = _; rw [List.length_set]; exact h.nc
    nodup:=h.nodup
    ksl:=h.ksl
    box:=by show m.server.box = _; rw [h.box]; simp only [hgn]
    busy:=rfl
    idle:=fun _=>rfl
    work:=fun j hj=>by cases hj
    down:=fun x=>absurd x (by simp [hu])
    upp:=h.upp
    clean:=fun _ _=>rfl
    cells:=h.cells
    right:=hpm1
    nm:=by show zbO m.store.cells = zdG (m.store.past ++ [m.server.now]); rw [zlV]; exact hpm2
    undo:=fun q hq=>by cases hq
    past:=fun r hr=>by
     have hr' : r ∈ m.store.past ++ [m.server.now]:=hr
     rcases List.mem_append.1 hr' with hr' | hr'
     ·exact h.past r hr'
     ·simp at hr'
      exact ⟨i,c.got.length,hi,p5,by rw [hr',w2]⟩
    falls:=h.falls
    gens:=h.gens
    clients:=fun k d hd=>by
     show CInv l (m.store.past ++ [m.server.now]) (zb5 m.store.answers ⟨m.server.now.client,m.server.now.token,m.server.says⟩) m.server.gen m.up ks none k d
     rcases zj9 hc hd with ⟨rfl,rfl⟩ | ⟨hne2,hd⟩
     ·have hml : (zcR (m.store.past ++ [m.server.now]) k).length = c.got.length + 1:=by rw [hmi,List.length_append,p6]; rfl
      have hta : (zcK (m.store.past ++ [m.server.now]) k).getD c.got.length ⟨0,0⟩ = m.server.says:=by
       rw [hti,List.getD_eq_getElem?_getD,List.getElem?_append_right (by omega),show c.got.length - (zcK m.store.past k).length = 0 by omega]
       rfl
      refine ⟨ci.calls,ci.at_,?_,by rw [hml]; omega,?_,.inr hml,?_,ci.hgen,.hear p1 (by simp) p2 hml ?_⟩
      ·rw [hml,List.range_succ,List.map_append,hmi,ci.done,p6,w2]
       simp
      ·show c.got = _
       rw [hti,List.take_append_of_le_length (show c.got.length <= (zcK m.store.past k).length by omega)]
       exact ci.got
      ·rw [hml,if_neg (by omega),Nat.add_sub_cancel,hta]
       have:=zlq m.store.answers ⟨m.server.now.client,m.server.now.token,m.server.says⟩
       rw [hcl,htk] at this ⊢
       exact this
      ·show [zci ⟨m.server.now.client,m.server.now.token,m.server.says⟩] = _
       rw [hta,hcl,htk]
     ·have hkc : m.server.now.client ≠ (k : Int):=by rw [hcl]; omega
      refine (h.clients k d hd).other (by rw [zjV,if_neg hkc]) (by rw [zhJ,if_neg hkc]) (zlO _ _ _ (fun e=>hkc e.symm)) Iff.rfl ?_
      simp
      exact fun e=>hne2 e.symm }
 | none =>
  have hbusy : m.server.busy = false:=h.busy
  have hsv:=h.idle rfl
  have hundo:=h.clean hu rfl
  cases ks with
  | nil =>
   rw [ziz hbusy (by rw [h.box]; rfl)]
   exact ⟨[],none,h⟩
  | cons k ks =>
   have hk : k < l.length:=h.ksl k (by simp)
   obtain ⟨c,hc⟩ : ∃ c,m.clients[k]? = some c:=⟨_,List.getElem?_eq_getElem (by rw [h.nc]; exact hk)⟩
   have ci:=h.clients k c hc
   have hph : c.sent = true /\ c.gen = m.server.gen /\ c.box = [] /\ c.got.length < (l.getD k []).length:=by
    cases ci.phase with
    | rest a=>exact absurd (by simp) a
    | wait a b d e f g=>exact ⟨d,e,f,g⟩
    | work a=>exact absurd (by simp) a
    | hear a=>exact absurd (by simp) a
    | lost a=>exact absurd (by simp) a
   obtain ⟨p2,p3,p4,p5⟩:=hph
   have hbox : m.server.box = zcp (zcd l k c.got.length) :: ks.map (fun k=>zcp (zcd l k (zdi m.clients k))):=by
    rw [h.box,List.map_cons,zeb hc]
   have hnd:=List.nodup_cons.1 h.nodup
   have hstep:=ci.step
   have hlast:=ci.last
   have htl:=zfW m.store.past k
   have hS:=serve_take (s:=m.store) hbusy hbox (zhH hl hk p5)
   have hrc : (zcd l k c.got.length).client = (k : Int):=rfl
   have hrt : (zcd l k c.got.length).token = (c.got.length : Int):=rfl
   rw [hrc,hrt,hlast] at hS
   by_cases hd : (zcR m.store.past k).length = c.got.length + 1
   ·-- it was done: the same answer again
    rw [if_neg (show ¬ (zcR m.store.past k).length = 0 by omega),hd,Nat.add_sub_cancel] at hS
    rw [if_pos (by exact ⟨rfl,Int.le_refl _⟩),if_pos (by rfl)] at hS
    rw [hS]
    simp only []
    have hne : zci ⟨(k : Int),(c.got.length : Int),(zcK m.store.past k).getD c.got.length ⟨0,0⟩⟩ ≠ []:=by simp [zci]
    have hto : ((zci ⟨(k : Int),(c.got.length : Int),(zcK m.store.past k).getD c.got.length ⟨0,0⟩⟩).getD 1 0).toNat = k:=by
     have:=zkG (a:=⟨(k : Int),(c.got.length : Int),(zcK m.store.past k).getD c.got.length ⟨0,0⟩⟩) (by show (0 : Int) <= k; omega) (by show (k : Int) < 3; omega)
     have this2 : (((zci ⟨(k : Int),(c.got.length : Int),(zcK m.store.past k).getD c.got.length ⟨0,0⟩⟩).getD 1 0).toNat : Int) = (k : Int):=this
     omega
    rw [if_neg (by simp),if_pos hne,hto,if_pos (by rw [h.nc]; exact hk)]
    have hgd : m.clients.getD k (zbY []) = c:=by rw [List.getD_eq_getElem?_getD,hc]; rfl
    rw [hgd]
    have hcome : zcs c (zci ⟨(k : Int),(c.got.length : Int),(zcK m.store.past k).getD c.got.length ⟨0,0⟩⟩) = { c with box:=[zci ⟨(k : Int),(c.got.length : Int),(zcK m.store.past k).getD c.got.length ⟨0,0⟩⟩] }:=by
     unfold zcs
     rw [p4]
     rfl
    rw [hcome]
    have hgn : ∀ j,zdi (m.clients.set k { c with box:=[zci ⟨(k : Int),(c.got.length : Int),(zcK m.store.past k).getD c.got.length ⟨0,0⟩⟩] }) j = zdi m.clients j:=fun j=>zgP (c':={ c with box:=[zci ⟨(k : Int),(c.got.length : Int),(zcK m.store.past k).getD c.got.length ⟨0,0⟩⟩] }) hc rfl j
    refine ⟨ks,none,?_⟩
    exact {
     nc:=by show (m.clients.set k _).length = _; rw [List.length_set]; exact h.nc
     nodup:=hnd.2
     ksl:=fun j hj=>h.ksl j (by simp [hj])
     box:=by show ks.map (fun k=>zcp (zcd l k (zdi m.clients k))) = _; simp only [hgn]
     busy:=h.busy
     idle:=fun _=>by
      show ({ m.server with box:=ks.map (fun k=>zcp (zcd l k (zdi m.clients k))) } : Sv) = zbG m.server.gen _
      rw [hsv]; rfl
     work:=fun j hj=>by cases hj
     down:=fun x=>absurd x (by simp [hu])
     upp:=h.upp
     clean:=h.clean
     cells:=h.cells
     right:=h.right
     nm:=h.nm
     undo:=h.undo
     past:=h.past
     falls:=h.falls
     gens:=h.gens
     clients:=fun j d hj=>by
      rcases zj9 hc hj with ⟨rfl,rfl⟩ | ⟨hne2,hj⟩
      ·exact ⟨ci.calls,ci.at_,ci.done,ci.most,ci.got,ci.step,ci.last,ci.hgen,.hear hnd.1 (by simp) p2 hd rfl⟩
      ·refine (h.clients j d hj).other rfl rfl rfl ?_ Iff.rfl
       simp [hne2] }
   ·-- it is new
    have hd0 : (zcR m.store.past k).length = c.got.length:=by omega
    have hnot : ¬ ((if (zcR m.store.past k).length = 0 then (zeroAn,false) else (⟨k,((zcR m.store.past k).length - 1 : Nat),(zcK m.store.past k).getD ((zcR m.store.past k).length - 1) ⟨0,0⟩⟩,true)).2 = true /\
      (c.got.length : Int) <= (if (zcR m.store.past k).length = 0 then (zeroAn,false) else ((⟨k,((zcR m.store.past k).length - 1 : Nat),(zcK m.store.past k).getD ((zcR m.store.past k).length - 1) ⟨0,0⟩⟩ : An),true)).1.token):=by
     by_cases hz : (zcR m.store.past k).length = 0
     ·rw [if_pos hz]; simp
     ·rw [if_neg hz]
      simp only [true_and]
      omega
    rw [if_neg hnot] at hS
    rw [hS]
    simp only []
    rw [if_neg (by simp),if_neg (by simp)]
    refine ⟨ks,some k,?_⟩
    have hnames : zbO m.store.cells = zdG m.store.past:=by have:=h.nm; rw [hundo] at this; exact this
    exact {
     nc:=h.nc
     nodup:=hnd.2
     ksl:=fun j hj=>h.ksl j (by simp [hj])
     box:=rfl
     busy:=rfl
     idle:=fun x=>by cases x
     work:=fun j hj=>by
      obtain rfl : k = j:=by simpa using hj
      refine ⟨hk,?_,?_,?_,?_⟩
      ·show zcd l k c.got.length = zcd l k (zdi m.clients k); rw [zeb hc]
      ·show (zbq (zbO m.store.cells) (zcd l k c.got.length).call).2 = (zbq (zdG m.store.past) (zcd l k c.got.length).call).2; rw [hnames]
      ·show zaH m.store.cells (zbm (zbO m.store.cells) (zcd l k c.got.length).call) = zaH (zaH m.store.cells m.store.undo) (zbm (zdG m.store.past) (zcd l k c.got.length).call)
       rw [hundo,hnames]; rfl
      ·exact znU _ _
     down:=fun x=>absurd x (by simp [hu])
     upp:=h.upp
     clean:=fun _ x=>by cases x
     cells:=h.cells
     right:=h.right
     nm:=h.nm
     undo:=h.undo
     past:=h.past
     falls:=h.falls
     gens:=h.gens
     clients:=fun j d hj=>by
      by_cases e : j = k
      ·subst e
       obtain rfl : c = d:=by rw [hc] at hj; exact Option.some.inj hj
       exact ⟨ci.calls,ci.at_,ci.done,ci.most,ci.got,ci.step,ci.last,ci.hgen,.work hnd.1 rfl p2 p3 p4 p5 hd0⟩
      ·refine (h.clients j d hj).other rfl rfl rfl ?_ ?_
       ·simp [e]
       ·simp; exact fun x=>e x.symm }

theorem znI {l : List (List Cl)} (hl : zbF l) {m : Mc} {ks : List Nat} {bz : Option Nat} (h : MInv l m ks bz) (kind n : Int) : ∃ ks' bz',MInv l (doM m kind n).1 ks' bz':=by
 by_cases h1 : kind = 1
 ·subst h1; exact zlI hl h n
 by_cases h2 : kind = 2
 ·subst h2; exact zl1 hl h n
 unfold doM
 rw [if_neg h1,if_neg h2]
 by_cases h3 : kind = 3
 ·rw [if_pos h3]; exact zoj h
 rw [if_neg h3]
 by_cases h4 : kind = 4
 ·rw [if_pos h4]; exact zoC h
 ·rw [if_neg h4]; exact ⟨ks,bz,h⟩
theorem zoV {l : List (List Cl)} (hl : zbF l) (steps : List (Int × Int)) {m : Mc} {ks : List Nat} {bz : Option Nat} (h : MInv l m ks bz) : ∃ ks' bz',MInv l (zef m steps) ks' bz':=by
 induction steps generalizing m ks bz with
 | nil=>exact ⟨ks,bz,h⟩
 | cons s steps ih =>
  obtain ⟨ks',bz',h'⟩:=znI hl h s.1 s.2
  exact ih h'
theorem zmp {l : List (List Cl)} (hl : zbF l) (steps : List (Int × Int)) : ∃ ks bz,MInv l (zef (zbb l) steps) ks bz:=zoV hl steps (zmt l)

open Go Go.RowKit

structure SizeM (m : Mc) (k : Nat) : Prop where
 undo : m.store.undo.length <= k
 answers : m.store.answers.length <= k
 past : m.store.past.length <= k
 box : m.server.box.length <= k
 each : ∀ c ∈ m.clients,c.got.length <= k /\ c.box.length <= k

theorem SizeM.mono {m : Mc} {k j : Nat} (h : SizeM m k) (hk : k <= j) : SizeM m j :=
 ⟨Nat.le_trans h.undo hk,Nat.le_trans h.answers hk,Nat.le_trans h.past hk,Nat.le_trans h.box hk,fun c hc=>⟨Nat.le_trans (h.each c hc).1 hk,Nat.le_trans (h.each c hc).2 hk⟩⟩
theorem zif (l : List (List Cl)) : SizeM (zbb l) 0:=⟨Nat.le_refl _,Nat.le_refl _,Nat.le_refl _,Nat.le_refl _,fun c hc=>by
 have hc' : c ∈ l.map zbY:=hc
 obtain ⟨x,_,rfl⟩:=List.mem_map.1 hc'
 exact ⟨Nat.le_refl _,Nat.le_refl _⟩⟩

theorem zlJ (s : St) (p : Int × Int) : (zaw s p).undo.length <= s.undo.length + 1 /\ (zaw s p).answers = s.answers /\ (zaw s p).past = s.past:=by
 unfold zaw
 split
 ·exact ⟨by simp,rfl,rfl⟩
 ·exact ⟨by omega,rfl,rfl⟩

theorem zmi {s : St} {v : Sv} {k : Nat} (h1 : s.undo.length <= k) (h2 : s.answers.length <= k) (h3 : s.past.length <= k) (h4 : v.box.length <= k) :
  (zaL s v).1.undo.length <= k + 1 /\ (zaL s v).1.answers.length <= k + 1 /\ (zaL s v).1.past.length <= k + 1 /\ (zaL s v).2.1.box.length <= k:=by
 unfold zaL
 split
 ·split
  ·rename_i p l _
   obtain ⟨w1,w2,w3⟩:=zlJ s p
   refine ⟨by simp only []; omega,by simp only [w2]; omega,by simp only [w3]; omega,h4⟩
  ·have:=zkv s.answers ⟨v.now.client,v.now.token,v.says⟩
   refine ⟨by simp [zb6],by simp only [zb6]; omega,by simp only [zb6,List.length_append,List.length_cons,List.length_nil]; omega,h4⟩
 ·split
  ·exact ⟨by simp only []; omega,by simp only []; omega,by simp only []; omega,h4⟩
  ·rename_i b l hb
   rw [hb] at h4
   have h5 : l.length <= k:=by simp only [List.length_cons] at h4; omega
   dsimp only
   repeat' split
   all_goals exact ⟨by simp only []; omega,by simp only []; omega,by simp only []; omega,h5⟩

theorem zpd {c : Cn} {k : Nat} (me gen : Int) (up : Bool) (h1 : c.got.length <= k) (h2 : c.box.length <= k) : (zcH c me gen up).1.got.length <= k + 1 /\ (zcH c me gen up).1.box.length <= k + 1:=by
 unfold zcH
 split
 ·rename_i b l hb
  rw [hb] at h2
  have h5 : l.length <= k:=by simp only [List.length_cons] at h2; omega
  dsimp only
  split
  ·exact ⟨by simp only [List.length_append,List.length_cons,List.length_nil]; omega,by simp only []; omega⟩
  ·exact ⟨by simp only []; omega,by simp only []; omega⟩
 ·repeat' split
  all_goals exact ⟨by simp only []; omega,by simp only []; omega⟩

theorem zmX (v : Sv) (b : List UInt8) {k : Nat} (h : v.box.length <= k) : (zck v b).1.box.length <= k + 1:=by
 unfold zck
 split
 ·simp only []; omega
 ·simp only [List.length_append,List.length_cons,List.length_nil]; omega
theorem zmP (c : Cn) (b : List UInt8) {k : Nat} (h1 : c.got.length <= k) (h2 : c.box.length <= k) : (zcs c b).got.length <= k + 1 /\ (zcs c b).box.length <= k + 1:=by
 unfold zcs
 split
 ·exact ⟨by simp only []; omega,by simp only [List.length_append,List.length_cons,List.length_nil]; omega⟩
 ·omega
theorem zi0 {cl : List Cn} {k : Nat} (h : ∀ c ∈ cl,c.got.length <= k /\ c.box.length <= k) (i : Nat) {x : Cn} (hx : x.got.length <= k + 1 /\ x.box.length <= k + 1) : ∀ c ∈ cl.set i x,c.got.length <= k + 1 /\ c.box.length <= k + 1:=fun c hc=>by
 rcases List.mem_or_eq_of_mem_set hc with h1 | rfl
 ·have:=h c h1; omega
 ·exact hx
theorem zln {cl : List Cn} {k : Nat} (h : ∀ c ∈ cl,c.got.length <= k /\ c.box.length <= k) (i : Nat) : (cl.getD i (zbY [])).got.length <= k /\ (cl.getD i (zbY [])).box.length <= k:=by
 by_cases hi : i < cl.length
 ·exact h _ (ziZ hi)
 ·rw [List.getD_eq_getElem?_getD,List.getElem?_eq_none (by omega)]
  exact ⟨Nat.zero_le _,Nat.zero_le _⟩

theorem zmH {m : Mc} {k : Nat} (h : SizeM m k) (kind n : Int) : SizeM (doM m kind n).1 (k + 1):=by
 have hm:=h.mono (Nat.le_succ k)
 unfold doM
 split
 ·split
  ·exact hm
  ·dsimp only
   have hg:=zln h.each n.toNat
   have hgo:=zpd n m.server.gen m.up hg.1 hg.2
   split
   ·exact hm
   ·split
    ·split
     ·exact hm
     ·exact ⟨hm.undo,hm.answers,hm.past,zmX _ _ h.box,zi0 h.each _ hgo⟩
    ·exact ⟨hm.undo,hm.answers,hm.past,hm.box,zi0 h.each _ hgo⟩
 ·split
  ·split
   ·exact hm
   ·dsimp only
    obtain ⟨s1,s2,s3,s4⟩:=zmi h.undo h.answers h.past h.box
    split
    ·exact hm
    ·split
     ·split
      ·have hg:=zln h.each ((zaL m.store m.server).2.2.1.getD 1 0).toNat
       exact ⟨s1,s2,s3,Nat.le_succ_of_le s4,zi0 h.each _ (zmP _ _ hg.1 hg.2)⟩
      ·exact ⟨s1,s2,s3,Nat.le_succ_of_le s4,hm.each⟩
     ·exact ⟨s1,s2,s3,Nat.le_succ_of_le s4,hm.each⟩
  ·split
   ·unfold zcZ
    split
    ·exact hm
    ·split
     ·exact hm
     ·exact ⟨hm.undo,hm.answers,hm.past,Nat.zero_le _,hm.each⟩
   ·split
    ·unfold zd9
     split
     ·exact hm
     ·split
      ·exact ⟨hm.undo,hm.answers,hm.past,hm.box,hm.each⟩
      ·exact ⟨Nat.zero_le _,hm.answers,hm.past,Nat.zero_le _,hm.each⟩
    ·exact hm
open Go Go.RowKit

theorem zjY {m : Mc} {k : Nat} (h : SizeM m k) : ∀ steps : List (Int × Int),SizeM (zef m steps) (k + steps.length):=fun steps=>by
 unfold zef
 induction steps generalizing m k with
 | nil=>exact h
 | cons p l ih =>
  have:=ih (zmH h p.1 p.2)
  rw [List.length_cons,show k + (l.length + 1) = k + 1 + l.length by omega]
  exact this

open Go Go.RowKit

open Go Go.RowKit

def zfP : List Cl -> Int
 | []=>0
 | x :: l=>if wrongCl x ≠ 0 then wrongCl x else zfP l
def errL : List (List Cl) -> Int
 | []=>0
 | c :: l=>if 8 < c.length then 4 else if zfP c ≠ 0 then zfP c else errL l
def zfZ (l : List (List Cl)) : Int:=if 3 < l.length then 5 else errL l

theorem zhC : ∀ {c : List Cl},(∀ y ∈ c,wrongCl y = 0) -> zfP c = 0
 | [],_=>rfl
 | x :: l,h=>by
  unfold zfP
  rw [if_neg (by simp [h x (by simp)])]
  exact zhC fun y hy=>h y (by simp [hy])
theorem zjZ : ∀ {c : List Cl} {q : Nat} {y : Cl},(∀ (j : Nat) (z : Cl),j < q -> c[j]? = some z -> wrongCl z = 0) -> c[q]? = some y -> wrongCl y ≠ 0 -> zfP c = wrongCl y
 | [],q,y,_,hy,_=>by simp at hy
 | x :: l,0,y,_,hy,hw=>by
  simp at hy
  subst hy
  unfold zfP
  rw [if_pos hw]
 | x :: l,q + 1,y,h,hy,hw=>by
  unfold zfP
  rw [if_neg (by simp [h 0 x (by omega) rfl])]
  exact zjZ (q:=q) (fun j z hj hz=>h (j + 1) z (by omega) (by simpa using hz)) (by simpa using hy) hw
theorem zmy : ∀ {l : List (List Cl)},(∀ c ∈ l,c.length <= 8 /\ ∀ x ∈ c,wrongCl x = 0) -> errL l = 0
 | [],_=>rfl
 | c :: l,h=>by
  obtain ⟨h1,h2⟩:=h c (by simp)
  unfold errL
  rw [if_neg (by omega),if_neg (by simp [zhC h2])]
  exact zmy fun d hd=>h d (by simp [hd])
theorem zkE : ∀ {l : List (List Cl)} {k : Nat} {x : List Cl},(∀ (j : Nat) (y : List Cl),j < k -> l[j]? = some y -> y.length <= 8 /\ ∀ z ∈ y,wrongCl z = 0) -> l[k]? = some x -> errL l = errL (x :: l.drop (k + 1))
 | [],k,x,_,hx=>by simp at hx
 | c :: l,0,x,_,hx=>by
  simp at hx
  subst hx
  rfl
 | c :: l,k + 1,x,h,hx=>by
  obtain ⟨h1,h2⟩:=h 0 c (by omega) rfl
  have ih:=zkE (l:=l) (k:=k) (x:=x) (fun j y hj hy=>h (j + 1) y (by omega) (by simpa using hy)) (by simpa using hx)
  rw [errL,if_neg (by omega),if_neg (by simp [zhC h2]),ih]
  rfl
theorem zjR {l : List (List Cl)} (h : 3 < l.length) : zfZ l = 5:=if_pos h
theorem zjX {l : List (List Cl)} (h3 : ¬ 3 < l.length) {k : Nat} {x : List Cl} (h : ∀ (j : Nat) (y : List Cl),j < k -> l[j]? = some y -> y.length <= 8 /\ ∀ z ∈ y,wrongCl z = 0) (hx : l[k]? = some x) (h8 : 8 < x.length) : zfZ l = 4:=by
 unfold zfZ
 rw [if_neg h3,zkE h hx,errL,if_pos h8]
theorem zjw {l : List (List Cl)} (h3 : ¬ 3 < l.length) {k q : Nat} {x : List Cl} {y : Cl} (h : ∀ (j : Nat) (y : List Cl),j < k -> l[j]? = some y -> y.length <= 8 /\ ∀ z ∈ y,wrongCl z = 0) (hx : l[k]? = some x) (h8 : ¬ 8 < x.length) (ha : ∀ (j : Nat) (z : Cl),j < q -> x[j]? = some z -> wrongCl z = 0) (hy : x[q]? = some y) (hw : wrongCl y ≠ 0) : zfZ l = wrongCl y:=by
 have hf:=zjZ ha hy hw
 unfold zfZ
 rw [if_neg h3,zkE h hx,errL,if_neg h8,if_pos (by rw [hf]; exact hw),hf]
theorem zfz {l : List (List Cl)} (h : zbF l) : zfZ l = 0:=by
 unfold zfZ
 rw [if_neg (by have:=h.1; omega)]
 exact zmy h.2
open Go Go.RowKit

theorem zhE {P : Program} (w : World) (base : Nat) (t ty e : TypeId) (i : TypeInfo) (z : Value) (size bytes : Nat) (ht : P.underlying t = some (.slice e)) (hi : P.info? e = some i) (hz : i.zero = some z)
  (hsize : i.size = size) (hby : i.bytes = bytes) (hzs : z.cells.size = size) (hsz : 0 < size)
  (v : Value) (n : Nat) (xs : List Value) (hown : w.ownsRow base e size v n xs) (u : Value) (m : Nat) (news : List Value) (hu : Row w size u m news) (h1 : ∀ u ∈ news,u.oneCell' = true)
  (hbytes : (n + m) * bytes <= 140737488355328) (hpos : 0 < bytes) (hbase : base <= w.heap.size) :
  ∃ v' w',(Builtin.append_ #[t,t] ty #[v,u]).run P w = .ok v' w' /\ w'.ownsRow base e size v' (n + m) (xs ++ news) /\ w.grownBy w' v.ownBlock /\ (v'.ownBlock = v.ownBlock ∨ ∀ g,v'.ownBlock = some g -> w.heap.size <= g):=by
 obtain ⟨v',w',hrun,h2,h3⟩:=zb8 (P:=P) w base t ty e i z size bytes ht hi hz hsize hby hzs hsz v n xs hown u m news hu h1 hbytes hpos hbase
 refine ⟨v',w',hrun,h2,h3,?_⟩
 have h63 : n + m <= maxLen:=by
  have : n + m <= (n + m) * bytes:=Nat.le_mul_of_pos_right _ hpos
  unfold maxLen
  omega
 rcases hown.2 with ⟨rfl,hn⟩ | ⟨g,cap,cur,rfl,hbg,hg,hnc,hcm,hcs,htake⟩
 ·-- onto nothing: whatever comes is new
  subst hn
  have hx : xs = []:=List.eq_nil_of_length_eq_zero (by simpa using hown.1)
  subst hx
  obtain ⟨v2,w2,hrun2,h4,_⟩:=zb8 (P:=P) w w.heap.size t ty e i z size bytes ht hi hz hsize hby hzs hsz (.slice none 0 0) 0 [] (World.ownsRow_nil _ _ _ _) u m news hu h1 hbytes hpos (Nat.le_refl _)
  rw [hrun] at hrun2
  cases hrun2
  exact .inr fun g hgv=>(h4.lt g hgv).1
 ·obtain ⟨hl,ao,ucap,rfl,huc,hum,h0,hcell⟩:=hu
  cases ao with
  | none =>
   have hcap:=h0 rfl
   subst hcap
   have hm0 : m = 0:=by omega
   subst hm0
   have:=run_append_owned_none (P:=P) w base t ty e i size ht hi _ n xs hown
   rw [this] at hrun
   cases hrun
   exact .inl rfl
  | some ad =>
   have hsrc : ∀ j u,news[j]? = some u -> w.cell? (ad.add j) = some u:=fun j u hj=>by
    obtain ⟨b,off,e',hc'⟩:=hcell j u hj
    simp only [Option.some.injEq] at e'
    subst e'
    rw [add_plain]; exact hc'
   by_cases hroom : n + m <= cap
   ·subst hsize
    have hr:=run_append_room (P:=P) w t ty e i ht hi g n cap cur hg ad m ucap news hl hsrc h1 hroom (by rw [hcs,hl,<- Nat.add_mul]; exact Nat.mul_le_mul_right _ hroom)
    rw [hrun] at hr
    cases hr
    exact .inl rfl
   ·obtain ⟨v2,w2,hrun2,r1,_⟩:=run_append_arg_grows (P:=P) w t ty e i z size bytes ht hi hz hsize hby hzs hsz ⟨g,0,none⟩ n cap xs hown.1 (hown.cells (g:=g) rfl) ad m ucap news hl hsrc (by omega) h63 hbytes
    rw [hrun] at hrun2
    cases hrun2
    exact .inr fun g hgv=>(r1.lt g hgv).1

section
variable {P : Program} {ops : Array Oper} {rest : List Oper} {o : Oper} {a : Act} {w : World} {Q : Exit -> Act -> World -> Prop}
theorem zeg (hgd : o.guard = none) (s x : Operand) (t : TypeId) (ho : o.op = .call { callee:=.builtin .append,args:=#[s,x],argTypes:=#[t,t] })
  (base : Nat) (e : TypeId) (i : TypeInfo) (z : Value) (size bytes : Nat) (ht : P.underlying t = some (.slice e)) (hi : P.info? e = some i) (hz : i.zero = some z)
  (hsize : i.size = size) (hby : i.bytes = bytes) (hzs : z.cells.size = size) (hsz : 0 < size)
  (v : Value) (n : Nat) (xs : List Value) (hs : a.eval s = v) (hown : w.ownsRow base e size v n xs) (u : Value) (hx : a.eval x = u) (m : Nat) (news : List Value) (hu : Row w size u m news) (h1 : ∀ u ∈ news,u.oneCell' = true)
  (hbytes : (n + m) * bytes <= 140737488355328) (hpos : 0 < bytes) (hbase : base <= w.heap.size)
  (h : ∀ v' w',w'.ownsRow base e size v' (n + m) (xs ++ news) -> w.grownBy w' v.ownBlock -> (v'.ownBlock = v.ownBlock ∨ ∀ g,v'.ownBlock = some g -> w.heap.size <= g) -> wpList P ops Q rest (a.put o.dst v') w') : wpList P ops Q (o :: rest) a w:=by
 refine wpList_plain hgd fun K hK=>?_
 obtain ⟨v',w',hrun,h2,h3,h4⟩:=zhE (P:=P) w base t o.type e i z size bytes ht hi hz hsize hby hzs hsz v n xs hown u m news hu h1 hbytes hpos hbase
 unfold Oper.wp
 simp [execOp,ho,resolve,invoke,builtin,hs,hx,hrun,Result.andThen]
 exact hK _ _ (h v' w' h2 h3 h4)
end
open Go Go.RowKit

open Go Go.RowKit

section
variable {l : List (List Cl)} {m : Mc} {ks : List Nat} {bz : Option Nat}

end
open Go Go.RowKit

section
variable {l : List (List Cl)} {m : Mc} {ks : List Nat} {bz : Option Nat}

def znH (m : Mc) : Bool:=m.clients.all fun c=>decide ((c.calls.length : Int) <= c.at_)
theorem znD (h : MInv l m ks bz) (hi : znH m = true) {i : Nat} {c : Cn} (hc : m.clients[i]? = some c) : c.got.length = (l.getD i []).length /\ (zcR m.store.past i).length = (l.getD i []).length /\ c.got = zcK m.store.past i:=by
 have ci:=h.clients i c hc
 have hm : c ∈ m.clients:=List.mem_of_getElem? hc
 unfold znH at hi
 rw [List.all_eq_true] at hi
 have:=hi c hm
 rw [decide_eq_true_eq,ci.calls,ci.at_] at this
 have h1:=ci.most
 have h2:=ci.step
 have h3:=zfW m.store.past i
 refine ⟨by omega,by omega,?_⟩
 have hg:=ci.got
 rwa [List.take_of_length_le (by omega)] at hg
end
open Go Go.RowKit

section
variable {l : List (List Cl)} {m : Mc} {ks : List Nat} {bz : Option Nat}

end

/-! What was done stays. -/

structure Grow (m m' : Mc) : Prop where
 past : ∃ s,m'.store.past = m.store.past ++ s
 len : m'.clients.length = m.clients.length
 got : ∀ (i : Nat) (c : Cn),m.clients[i]? = some c -> ∃ (c' : Cn) (t : List Rp),m'.clients[i]? = some c' /\ c'.got = c.got ++ t

theorem Grow.refl (m : Mc) : Grow m m:=⟨⟨[],by simp⟩,rfl,fun i c h=>⟨c,[],h,by simp⟩⟩
theorem Grow.trans {a b c : Mc} (h : Grow a b) (k : Grow b c) : Grow a c:=by
 refine ⟨?_,k.len.trans h.len,fun i x hx=>?_⟩
 ·obtain ⟨s,hs⟩:=h.past
  obtain ⟨t,ht⟩:=k.past
  exact ⟨s ++ t,by rw [ht,hs,List.append_assoc]⟩
 ·obtain ⟨y,t,hy,e⟩:=h.got i x hx
  obtain ⟨z,u,hz,f⟩:=k.got i y hy
  exact ⟨z,t ++ u,hz,by rw [f,e,List.append_assoc]⟩

theorem ziT {m : Mc} {st : St} {sv : Sv} {k : Nat} {x y : Cn} (hs : ∃ s,st.past = m.store.past ++ s) (hk : m.clients.getD k (zbY []) = x) (hy : ∃ t,y.got = x.got ++ t) :
  Grow m { m with store:=st,server:=sv,clients:=m.clients.set k y }:=by
 refine ⟨hs,by simp,fun i c hc=>?_⟩
 by_cases hik : k = i
 ·subst hik
  have e : c = x:=by rw [<- hk,List.getD_eq_getElem?_getD,hc]; rfl
  subst e
  obtain ⟨t,ht⟩:=hy
  exact ⟨y,t,List.getElem?_set_self (List.getElem?_eq_some_iff.1 hc).1,ht⟩
 ·exact ⟨c,[],by rw [List.getElem?_set_ne hik]; exact hc,by simp⟩

theorem zmF (c : Cn) (me gen : Int) (up : Bool) : ∃ t,(zcH c me gen up).1.got = c.got ++ t:=by
 unfold zcH
 cases hb : c.box with
 | nil =>
  simp only []
  repeat' split
  all_goals exact ⟨[],by simp⟩
 | cons b r =>
  simp only []
  split
  ·exact ⟨_,rfl⟩
  ·exact ⟨[],by simp⟩
theorem zlM (s : St) (v : Sv) : (zaL s v).1.past = s.past ∨ ∃ r,(zaL s v).1.past = s.past ++ [r]:=by
 unfold zaL
 by_cases hb : v.busy = true
 ·rw [if_pos hb]
  cases v.plan with
  | nil=>exact .inr ⟨_,rfl⟩
  | cons q rest =>
   left
   show (zaw s q).past = s.past
   unfold zaw
   split <;> rfl
 ·rw [if_neg hb]
  left
  cases v.box with
  | nil=>rfl
  | cons b r =>
   simp only []
   repeat' split
   all_goals rfl
theorem zor (c : Cn) (b : List UInt8) : (zcs c b).got = c.got:=by
 unfold zcs
 split <;> rfl

theorem zo9 (m : Mc) (kind n : Int) : Grow m (doM m kind n).1:=by
 unfold doM
 simp only []
 by_cases h1 : kind = 1
 ·rw [if_pos h1]
  by_cases h2 : n < 0 ∨ (m.clients.length : Int) <= n
  ·rw [if_pos h2]; exact Grow.refl m
  rw [if_neg h2]
  by_cases h3 : (zcH (m.clients.getD n.toNat (zbY [])) n m.server.gen m.up).2.2 ≠ 0
  ·rw [if_pos h3]; exact Grow.refl m
  rw [if_neg h3]
  by_cases h4 : (zcH (m.clients.getD n.toNat (zbY [])) n m.server.gen m.up).2.1 ≠ []
  ·rw [if_pos h4]
   by_cases h5 : (zck m.server (zcH (m.clients.getD n.toNat (zbY [])) n m.server.gen m.up).2.1).2 ≠ 0
   ·rw [if_pos h5]; exact Grow.refl m
   rw [if_neg h5]
   exact ziT (st:=m.store) ⟨[],by simp⟩ rfl (zmF _ _ _ _)
  ·rw [if_neg h4]
   exact ziT (st:=m.store) (sv:=m.server) ⟨[],by simp⟩ rfl (zmF _ _ _ _)
 rw [if_neg h1]
 by_cases h2 : kind = 2
 ·rw [if_pos h2]
  by_cases h3 : ¬ m.up = true
  ·rw [if_pos h3]; exact Grow.refl m
  rw [if_neg h3]
  by_cases h4 : (zaL m.store m.server).2.2.2 ≠ 0
  ·rw [if_pos h4]; exact Grow.refl m
  rw [if_neg h4]
  have hp : ∃ s,(zaL m.store m.server).1.past = m.store.past ++ s:=by
   rcases zlM m.store m.server with h | ⟨r,h⟩
   ·exact ⟨[],by rw [h]; simp⟩
   ·exact ⟨_,h⟩
  by_cases h5 : (zaL m.store m.server).2.2.1 ≠ []
  ·rw [if_pos h5]
   by_cases h6 : ((zaL m.store m.server).2.2.1.getD 1 0).toNat < m.clients.length
   ·rw [if_pos h6]
    exact ziT hp rfl ⟨[],by rw [zor]; simp⟩
   ·rw [if_neg h6]
    exact ⟨hp,rfl,fun i c h=>⟨c,[],h,by simp⟩⟩
  ·rw [if_neg h5]
   exact ⟨hp,rfl,fun i c h=>⟨c,[],h,by simp⟩⟩
 rw [if_neg h2]
 by_cases h3 : kind = 3
 ·rw [if_pos h3]
  unfold zcZ
  repeat' split
  all_goals exact ⟨⟨[],by simp⟩,rfl,fun i c h=>⟨c,[],h,by simp⟩⟩
 rw [if_neg h3]
 by_cases h4 : kind = 4
 ·rw [if_pos h4]
  show Grow m (zd9 m)
  unfold zd9
  repeat' split
  all_goals exact ⟨⟨[],by simp [zbA]⟩,rfl,fun i c h=>⟨c,[],h,by simp⟩⟩
 rw [if_neg h4]
 exact Grow.refl m

/-! A machine is whole. -/

/-! Alone it is as one by one. -/

theorem zlP {calls : List Cl} {m : Mc} {ks : List Nat} {bz : Option Nat} (h : MInv [calls] m ks bz) : zcR m.store.past 0 = m.store.past:=by
 unfold zcR
 rw [List.filter_eq_self]
 intro r hr
 obtain ⟨i,t,hi,-,rfl⟩:=h.past r hr
 have : i = 0:=by simpa using hi
 subst this
 simp [zcd]

theorem zma {calls : List Cl} {m : Mc} {ks : List Nat} {bz : Option Nat} (h : MInv [calls] m ks bz) : zcK m.store.past 0 = (zdO (m.store.past.map Rq.call)).2.map fun x=>⟨x.1,x.2⟩:=by
 unfold zcK
 have hall : ∀ x ∈ m.store.past.zip (zdO (m.store.past.map Rq.call)).2,decide (x.1.client = ((0 : Nat) : Int)) = true:=fun x hx=>by
  have hm:=(List.of_mem_zip hx).1
  obtain ⟨i,t,hi,-,e⟩:=h.past x.1 hm
  have : i = 0:=by simpa using hi
  subst this
  rw [e]
  simp [zcd]
 rw [List.filter_eq_self.2 hall]
 have hlen : (zdO (m.store.past.map Rq.call)).2.length = m.store.past.length:=by rw [zkd]; simp
 generalize (zdO (m.store.past.map Rq.call)).2 = q at *
 clear hall h
 generalize m.store.past = p at *
 induction p generalizing q with
 | nil=>cases q with
  | nil=>rfl
  | cons _ _=>cases hlen
 | cons r p ih=>cases q with
  | nil=>cases hlen
  | cons x q =>
   simp only [List.zip_cons_cons,List.map_cons]
   rw [ih q (by simpa using hlen)]

theorem zqx {calls : List Cl} {m : Mc} {ks : List Nat} {bz : Option Nat} (h : MInv [calls] m ks bz) (hi : znH m = true) :
  m.clients.length = 1 /\ ∀ c,m.clients[0]? = some c -> c.got = (zdO calls).2.map (fun x=>⟨x.1,x.2⟩) /\ zbO (zaH m.store.cells m.store.undo) = (zdO calls).1:=by
 refine ⟨h.nc,fun c hc=>?_⟩
 obtain ⟨-,h2,h3⟩:=znD h hi hc
 have ci:=h.clients 0 c hc
 have hp : m.store.past.map Rq.call = calls:=by
  rw [<- zlP h,ci.done,h2]
  refine List.ext_getElem (by simp) fun k k1 k2=>?_
  simp [zcd,k2]
 refine ⟨by rw [h3,zma h,hp],by rw [h.nm]; unfold zdG; rw [hp]⟩

end Go.Mk

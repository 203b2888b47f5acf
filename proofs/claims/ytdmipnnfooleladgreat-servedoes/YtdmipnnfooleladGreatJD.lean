/- Texts of the proof, merged: Math13 Math21 Mem11 Math22 Math23. -/
import Derived.Test.YtdmipnnfooleladGreatJC
import Derived.Test.YtdmipnnfooleladGreatJB

namespace Go.Mk
open Go Go.RowKit

theorem serve_write {s : St} {v : Sv} {q : Int × Int} {rest : List (Int × Int)} (hb : v.busy = true) (hp : v.plan = q :: rest) : serveM s v = (writeSt s q,{ v with plan:=rest },[],0):=by
 unfold serveM
 rw [if_pos hb,hp]
theorem serve_commit {s : St} {v : Sv} (hb : v.busy = true) (hp : v.plan = []) : serveM s v = (commitSt s v.now v.says,idleSv v.gen v.box,ansB ⟨v.now.client,v.now.token,v.says⟩,0):=by
 unfold serveM
 rw [if_pos hb,hp]
theorem serve_wait {s : St} {v : Sv} (hb : v.busy = false) (hp : v.box = []) : serveM s v = (s,v,[],12):=by
 unfold serveM
 rw [if_neg (by simp [hb]),hp]
theorem serve_take {s : St} {v : Sv} {r : Rq} {rest : List (List UInt8)} (hb : v.busy = false) (hp : v.box = reqB r :: rest) (hr : wrongRq r = 0) :
  serveM s v = if (lastAn s.answers r.client).2 = true ∧ r.token ≤ (lastAn s.answers r.client).1.token then
   if (lastAn s.answers r.client).1.token = r.token then (s,{ v with box:=rest },ansB (lastAn s.answers r.client).1,0) else (s,{ v with box:=rest },[],0)
   else (s,{ v with box:=rest,busy:=true,now:=r,plan:=planCl (namesOf s.cells) r.call,says:=(doCl (namesOf s.cells) r.call).2 },[],0):=by
 unfold serveM
 rw [if_neg (by simp [hb]),hp]
 simp only [readRq_req hr]
 rw [if_neg (by simp)]
theorem setAll_write (s : St) (q : Int × Int) (rest : List (Int × Int)) : setAll (writeSt s q).cells rest = setAll s.cells (q :: rest):=by
 unfold writeSt
 by_cases h : 0 ≤ q.1 ∧ q.1 < (s.cells.length : Int)
 ·rw [if_pos h]; rfl
 ·rw [if_neg h]
  show setAll s.cells rest = setAll (set1 s.cells q) rest
  rw [show set1 s.cells q = s.cells by unfold set1; rw [if_neg h]]

/-- The server's word reaches its client. -/
theorem word_to {a : An} (h0 : 0 ≤ a.client) (h1 : a.client < 3) : (((ansB a).getD 1 0).toNat : Int) = a.client:=byteOf_toNat h0 (by omega)

theorem inv_server {l : List (List Cl)} (hl : rightL l) {m : Mc} {ks : List Nat} {bz : Option Nat} (h : MInv l m ks bz) (n : Int) : ∃ ks' bz',MInv l (doM m 2 n).1 ks' bz':=by
 unfold doM
 rw [if_neg (by decide),if_pos rfl]
 by_cases hu : m.up = true
 case neg=>rw [if_pos hu]; exact ⟨ks,bz,h⟩
 rw [if_neg (fun x=>x hu)]
 have hokn:=past_names hl h.past
 have h3:=hl.1
 cases bz with
 | some i =>
  have hbusy : m.server.busy = true:=h.busy
  obtain ⟨hi,w2,w3,w4,w5⟩:=h.work i rfl
  obtain ⟨c,hc⟩ : ∃ c,m.clients[i]? = some c:=⟨_,List.getElem?_eq_getElem (by rw [h.nc]; exact hi)⟩
  have ci:=h.clients i c hc
  rw [gotOf_at hc] at w2
  cases hp : m.server.plan with
  | cons q rest =>
   rw [serve_write hbusy hp]
   simp only []
   rw [if_neg (by simp),if_neg (by simp)]
   refine ⟨ks,some i,?_⟩
   have hbk:=back_write m.store q
   have hcells : setAll (writeSt m.store q).cells (writeSt m.store q).undo = setAll m.store.cells m.store.undo:=congrArg St.cells hbk
   have hpast : (writeSt m.store q).past = m.store.past:=by unfold writeSt; split <;> rfl
   have hansw : (writeSt m.store q).answers = m.store.answers:=by unfold writeSt; split <;> rfl
   have hund : ∀ x ∈ (writeSt m.store q).undo,0 ≤ x.1 ∧ x.1 ≤ 10:=by
    intro x hx
    unfold writeSt at hx
    split at hx
    ·rename_i hr
     have hx' : x ∈ (q.1,m.store.cells.getD q.1.toNat 0) :: m.store.undo:=hx
     rcases List.mem_cons.1 hx' with rfl | hx'
     ·have:=h.cells; simp only []; omega
     ·exact h.undo x hx'
    ·exact h.undo x hx
   exact {
    nc:=h.nc
    nodup:=h.nodup
    ksl:=h.ksl
    box:=h.box
    busy:=h.busy
    idle:=fun x=>by cases x
    work:=fun j hj=>by
     obtain ⟨v1,v2,v3,v4,v5⟩:=h.work j hj
     refine ⟨v1,v2,?_,?_,?_⟩
     ·show m.server.says = (doCl (names (writeSt m.store q).past) m.server.now.call).2
      rw [hpast]; exact v3
     ·show setAll (writeSt m.store q).cells rest = setAll (setAll (writeSt m.store q).cells (writeSt m.store q).undo) (planCl (names (writeSt m.store q).past) m.server.now.call)
      rw [setAll_write,hcells,hpast,← hp]; exact v4
     ·show rest.length ≤ 3
      rw [hp] at v5; simp at v5; omega
    down:=fun x=>absurd x (by simp [hu])
    upp:=h.upp
    clean:=fun _ x=>by cases x
    cells:=by show (writeSt m.store q).cells.length = 11; rw [length_write]; exact h.cells
    right:=by show wrongOf (setAll (writeSt m.store q).cells (writeSt m.store q).undo) = 0; rw [hcells]; exact h.right
    nm:=by show namesOf (setAll (writeSt m.store q).cells (writeSt m.store q).undo) = names (writeSt m.store q).past; rw [hcells,hpast]; exact h.nm
    undo:=hund
    past:=by show PastOk l (writeSt m.store q).past; rw [hpast]; exact h.past
    falls:=h.falls
    gens:=h.gens
    clients:=fun k d hd=>by
     show CInv l (writeSt m.store q).past (writeSt m.store q).answers m.server.gen m.up ks (some i) k d
     rw [hpast,hansw]
     exact h.clients k d hd }
  | nil =>
   rw [serve_commit hbusy hp]
   have hph : i ∉ ks ∧ c.sent = true ∧ c.gen = m.server.gen ∧ c.box = [] ∧ c.got.length < (l.getD i []).length ∧ (mine m.store.past i).length = c.got.length:=by
    cases ci.phase with
    | rest a b=>exact absurd rfl b
    | wait a b=>exact absurd rfl b
    | work a b d e f g k=>exact ⟨a,d,e,f,g,k⟩
    | hear a b=>exact absurd rfl b
    | lost a b=>exact absurd rfl b
   obtain ⟨p1,p2,p3,p4,p5,p6⟩:=hph
   have hcall:=right_call hl hi p5
   have hcl : m.server.now.client = (i : Int):=by rw [w2]; rfl
   have htk : m.server.now.token = (c.got.length : Int):=by rw [w2]; rfl
   have hne : ansB ⟨m.server.now.client,m.server.now.token,m.server.says⟩ ≠ []:=by simp [ansB]
   have hto : ((ansB ⟨m.server.now.client,m.server.now.token,m.server.says⟩).getD 1 0).toNat = i:=by
    have:=word_to (a:=⟨m.server.now.client,m.server.now.token,m.server.says⟩) (by show 0 ≤ m.server.now.client; rw [hcl]; omega) (by show m.server.now.client < 3; rw [hcl]; omega)
    rw [hcl] at this ⊢
    have this2 : (((ansB ⟨(i : Int),m.server.now.token,m.server.says⟩).getD 1 0).toNat : Int) = (i : Int):=this
    omega
   simp only []
   rw [if_neg (by simp),if_pos hne,hto,if_pos (by rw [h.nc]; exact hi)]
   have hgd : m.clients.getD i (newCn []) = c:=by rw [List.getD_eq_getElem?_getD,hc]; rfl
   rw [hgd]
   have hcome : comeCn c (ansB ⟨m.server.now.client,m.server.now.token,m.server.says⟩) = { c with box:=[ansB ⟨m.server.now.client,m.server.now.token,m.server.says⟩] }:=by
    unfold comeCn
    rw [p4]
    rfl
   rw [hcome]
   refine ⟨ks,none,?_⟩
   -- what cells are now
   have hcells : m.store.cells = setAll (setAll m.store.cells m.store.undo) (planCl (namesOf (setAll m.store.cells m.store.undo)) m.server.now.call):=by
    rw [hp] at w4
    rw [h.nm]
    exact w4
   have hpm:=plan_model (c:=m.server.now.call) h.right (by rw [w2]; exact hcall)
   have hpm1 : wrongOf m.store.cells = 0:=by rw [hcells]; exact hpm.1
   have hpm2 : namesOf m.store.cells = (doCl (names m.store.past) m.server.now.call).1:=by
    have h2 : namesOf (setAll (setAll m.store.cells m.store.undo) (planCl (namesOf (setAll m.store.cells m.store.undo)) m.server.now.call)) = (doCl (namesOf (setAll m.store.cells m.store.undo)) m.server.now.call).1:=hpm.2
    rw [← hcells,h.nm] at h2
    exact h2
   have hmi : mine (m.store.past ++ [m.server.now]) i = mine m.store.past i ++ [m.server.now]:=by rw [mine_snoc,if_pos hcl]
   have hti : told (m.store.past ++ [m.server.now]) i = told m.store.past i ++ [m.server.says]:=by rw [told_snoc,if_pos hcl,← w3]
   have htl:=told_len m.store.past i
   have hgn : ∀ k,gotOf (m.clients.set i { c with box:=[ansB ⟨m.server.now.client,m.server.now.token,m.server.says⟩] }) k = gotOf m.clients k:=fun k=>gotOf_same (c':={ c with box:=[ansB ⟨m.server.now.client,m.server.now.token,m.server.says⟩] }) hc rfl k
   exact {
    nc:=by show (m.clients.set i _).length = _; rw [List.length_set]; exact h.nc
    nodup:=h.nodup
    ksl:=h.ksl
    box:=by show m.server.box = _; rw [h.box]; simp only [hgn]
    busy:=rfl
    idle:=fun _=>rfl
    work:=fun j hj=>by cases hj
    down:=fun x=>absurd x (by simp [hu])
    upp:=h.upp
    clean:=fun _ _=>rfl
    cells:=h.cells
    right:=hpm1
    nm:=by show namesOf m.store.cells = names (m.store.past ++ [m.server.now]); rw [names_snoc]; exact hpm2
    undo:=fun q hq=>by cases hq
    past:=fun r hr=>by
     have hr' : r ∈ m.store.past ++ [m.server.now]:=hr
     rcases List.mem_append.1 hr' with hr' | hr'
     ·exact h.past r hr'
     ·simp at hr'
      exact ⟨i,c.got.length,hi,p5,by rw [hr',w2]⟩
    falls:=h.falls
    gens:=h.gens
    clients:=fun k d hd=>by
     show CInv l (m.store.past ++ [m.server.now]) (putAn m.store.answers ⟨m.server.now.client,m.server.now.token,m.server.says⟩) m.server.gen m.up ks none k d
     rcases set_at hc hd with ⟨rfl,rfl⟩ | ⟨hne2,hd⟩
     ·have hml : (mine (m.store.past ++ [m.server.now]) k).length = c.got.length + 1:=by rw [hmi,List.length_append,p6]; rfl
      have hta : (told (m.store.past ++ [m.server.now]) k).getD c.got.length ⟨0,0⟩ = m.server.says:=by
       rw [hti,List.getD_eq_getElem?_getD,List.getElem?_append_right (by omega),show c.got.length - (told m.store.past k).length = 0 by omega]
       rfl
      refine ⟨ci.calls,ci.at_,?_,by rw [hml]; omega,?_,.inr hml,?_,ci.hgen,.hear p1 (by simp) p2 hml ?_⟩
      ·rw [hml,List.range_succ,List.map_append,hmi,ci.done,p6,w2]
       simp
      ·show c.got = _
       rw [hti,List.take_append_of_le_length (show c.got.length ≤ (told m.store.past k).length by omega)]
       exact ci.got
      ·rw [hml,if_neg (by omega),Nat.add_sub_cancel,hta]
       have:=last_put m.store.answers ⟨m.server.now.client,m.server.now.token,m.server.says⟩
       rw [hcl,htk] at this ⊢
       exact this
      ·show [ansB ⟨m.server.now.client,m.server.now.token,m.server.says⟩] = _
       rw [hta,hcl,htk]
     ·have hkc : m.server.now.client ≠ (k : Int):=by rw [hcl]; omega
      refine (h.clients k d hd).other (by rw [mine_snoc,if_neg hkc]) (by rw [told_snoc,if_neg hkc]) (last_other _ _ _ (fun e=>hkc e.symm)) Iff.rfl ?_
      simp
      exact fun e=>hne2 e.symm }
 | none =>
  have hbusy : m.server.busy = false:=h.busy
  have hsv:=h.idle rfl
  have hundo:=h.clean hu rfl
  cases ks with
  | nil =>
   rw [serve_wait hbusy (by rw [h.box]; rfl)]
   exact ⟨[],none,h⟩
  | cons k ks =>
   have hk : k < l.length:=h.ksl k (by simp)
   obtain ⟨c,hc⟩ : ∃ c,m.clients[k]? = some c:=⟨_,List.getElem?_eq_getElem (by rw [h.nc]; exact hk)⟩
   have ci:=h.clients k c hc
   have hph : c.sent = true ∧ c.gen = m.server.gen ∧ c.box = [] ∧ c.got.length < (l.getD k []).length:=by
    cases ci.phase with
    | rest a=>exact absurd (by simp) a
    | wait a b d e f g=>exact ⟨d,e,f,g⟩
    | work a=>exact absurd (by simp) a
    | hear a=>exact absurd (by simp) a
    | lost a=>exact absurd (by simp) a
   obtain ⟨p2,p3,p4,p5⟩:=hph
   have hbox : m.server.box = reqB (reqOf l k c.got.length) :: ks.map (fun k=>reqB (reqOf l k (gotOf m.clients k))):=by
    rw [h.box,List.map_cons,gotOf_at hc]
   have hnd:=List.nodup_cons.1 h.nodup
   have hstep:=ci.step
   have hlast:=ci.last
   have htl:=told_len m.store.past k
   have hS:=serve_take (s:=m.store) hbusy hbox (right_req hl hk p5)
   have hrc : (reqOf l k c.got.length).client = (k : Int):=rfl
   have hrt : (reqOf l k c.got.length).token = (c.got.length : Int):=rfl
   rw [hrc,hrt,hlast] at hS
   by_cases hd : (mine m.store.past k).length = c.got.length + 1
   ·-- it was done: the same answer again
    rw [if_neg (show ¬ (mine m.store.past k).length = 0 by omega),hd,Nat.add_sub_cancel] at hS
    rw [if_pos (by exact ⟨rfl,Int.le_refl _⟩),if_pos (by rfl)] at hS
    rw [hS]
    simp only []
    have hne : ansB ⟨(k : Int),(c.got.length : Int),(told m.store.past k).getD c.got.length ⟨0,0⟩⟩ ≠ []:=by simp [ansB]
    have hto : ((ansB ⟨(k : Int),(c.got.length : Int),(told m.store.past k).getD c.got.length ⟨0,0⟩⟩).getD 1 0).toNat = k:=by
     have:=word_to (a:=⟨(k : Int),(c.got.length : Int),(told m.store.past k).getD c.got.length ⟨0,0⟩⟩) (by show (0 : Int) ≤ k; omega) (by show (k : Int) < 3; omega)
     have this2 : (((ansB ⟨(k : Int),(c.got.length : Int),(told m.store.past k).getD c.got.length ⟨0,0⟩⟩).getD 1 0).toNat : Int) = (k : Int):=this
     omega
    rw [if_neg (by simp),if_pos hne,hto,if_pos (by rw [h.nc]; exact hk)]
    have hgd : m.clients.getD k (newCn []) = c:=by rw [List.getD_eq_getElem?_getD,hc]; rfl
    rw [hgd]
    have hcome : comeCn c (ansB ⟨(k : Int),(c.got.length : Int),(told m.store.past k).getD c.got.length ⟨0,0⟩⟩) = { c with box:=[ansB ⟨(k : Int),(c.got.length : Int),(told m.store.past k).getD c.got.length ⟨0,0⟩⟩] }:=by
     unfold comeCn
     rw [p4]
     rfl
    rw [hcome]
    have hgn : ∀ j,gotOf (m.clients.set k { c with box:=[ansB ⟨(k : Int),(c.got.length : Int),(told m.store.past k).getD c.got.length ⟨0,0⟩⟩] }) j = gotOf m.clients j:=fun j=>gotOf_same (c':={ c with box:=[ansB ⟨(k : Int),(c.got.length : Int),(told m.store.past k).getD c.got.length ⟨0,0⟩⟩] }) hc rfl j
    refine ⟨ks,none,?_⟩
    exact {
     nc:=by show (m.clients.set k _).length = _; rw [List.length_set]; exact h.nc
     nodup:=hnd.2
     ksl:=fun j hj=>h.ksl j (by simp [hj])
     box:=by show ks.map (fun k=>reqB (reqOf l k (gotOf m.clients k))) = _; simp only [hgn]
     busy:=h.busy
     idle:=fun _=>by
      show ({ m.server with box:=ks.map (fun k=>reqB (reqOf l k (gotOf m.clients k))) } : Sv) = idleSv m.server.gen _
      rw [hsv]; rfl
     work:=fun j hj=>by cases hj
     down:=fun x=>absurd x (by simp [hu])
     upp:=h.upp
     clean:=h.clean
     cells:=h.cells
     right:=h.right
     nm:=h.nm
     undo:=h.undo
     past:=h.past
     falls:=h.falls
     gens:=h.gens
     clients:=fun j d hj=>by
      rcases set_at hc hj with ⟨rfl,rfl⟩ | ⟨hne2,hj⟩
      ·exact ⟨ci.calls,ci.at_,ci.done,ci.most,ci.got,ci.step,ci.last,ci.hgen,.hear hnd.1 (by simp) p2 hd rfl⟩
      ·refine (h.clients j d hj).other rfl rfl rfl ?_ Iff.rfl
       simp [hne2] }
   ·-- it is new
    have hd0 : (mine m.store.past k).length = c.got.length:=by omega
    have hnot : ¬ ((if (mine m.store.past k).length = 0 then (zeroAn,false) else (⟨k,((mine m.store.past k).length - 1 : Nat),(told m.store.past k).getD ((mine m.store.past k).length - 1) ⟨0,0⟩⟩,true)).2 = true ∧
      (c.got.length : Int) ≤ (if (mine m.store.past k).length = 0 then (zeroAn,false) else ((⟨k,((mine m.store.past k).length - 1 : Nat),(told m.store.past k).getD ((mine m.store.past k).length - 1) ⟨0,0⟩⟩ : An),true)).1.token):=by
     by_cases hz : (mine m.store.past k).length = 0
     ·rw [if_pos hz]; simp
     ·rw [if_neg hz]
      simp only [true_and]
      omega
    rw [if_neg hnot] at hS
    rw [hS]
    simp only []
    rw [if_neg (by simp),if_neg (by simp)]
    refine ⟨ks,some k,?_⟩
    have hnames : namesOf m.store.cells = names m.store.past:=by have:=h.nm; rw [hundo] at this; exact this
    exact {
     nc:=h.nc
     nodup:=hnd.2
     ksl:=fun j hj=>h.ksl j (by simp [hj])
     box:=rfl
     busy:=rfl
     idle:=fun x=>by cases x
     work:=fun j hj=>by
      obtain rfl : k = j:=by simpa using hj
      refine ⟨hk,?_,?_,?_,?_⟩
      ·show reqOf l k c.got.length = reqOf l k (gotOf m.clients k); rw [gotOf_at hc]
      ·show (doCl (namesOf m.store.cells) (reqOf l k c.got.length).call).2 = (doCl (names m.store.past) (reqOf l k c.got.length).call).2; rw [hnames]
      ·show setAll m.store.cells (planCl (namesOf m.store.cells) (reqOf l k c.got.length).call) = setAll (setAll m.store.cells m.store.undo) (planCl (names m.store.past) (reqOf l k c.got.length).call)
       rw [hundo,hnames]; rfl
      ·exact plan_len _ _
     down:=fun x=>absurd x (by simp [hu])
     upp:=h.upp
     clean:=fun _ x=>by cases x
     cells:=h.cells
     right:=h.right
     nm:=h.nm
     undo:=h.undo
     past:=h.past
     falls:=h.falls
     gens:=h.gens
     clients:=fun j d hj=>by
      by_cases e : j = k
      ·subst e
       obtain rfl : c = d:=by rw [hc] at hj; exact Option.some.inj hj
       exact ⟨ci.calls,ci.at_,ci.done,ci.most,ci.got,ci.step,ci.last,ci.hgen,.work hnd.1 rfl p2 p3 p4 p5 hd0⟩
      ·refine (h.clients j d hj).other rfl rfl rfl ?_ ?_
       ·simp [e]
       ·simp; exact fun x=>e x.symm }

/-- Whatever step it is. -/
theorem inv_do {l : List (List Cl)} (hl : rightL l) {m : Mc} {ks : List Nat} {bz : Option Nat} (h : MInv l m ks bz) (kind n : Int) : ∃ ks' bz',MInv l (doM m kind n).1 ks' bz':=by
 by_cases h1 : kind = 1
 ·subst h1; exact inv_client hl h n
 by_cases h2 : kind = 2
 ·subst h2; exact inv_server hl h n
 unfold doM
 rw [if_neg h1,if_neg h2]
 by_cases h3 : kind = 3
 ·rw [if_pos h3]; exact inv_fall h
 rw [if_neg h3]
 by_cases h4 : kind = 4
 ·rw [if_pos h4]; exact inv_tick h
 ·rw [if_neg h4]; exact ⟨ks,bz,h⟩
theorem inv_play {l : List (List Cl)} (hl : rightL l) (steps : List (Int × Int)) {m : Mc} {ks : List Nat} {bz : Option Nat} (h : MInv l m ks bz) : ∃ ks' bz',MInv l (playM m steps) ks' bz':=by
 induction steps generalizing m ks bz with
 | nil=>exact ⟨ks,bz,h⟩
 | cons s steps ih =>
  obtain ⟨ks',bz',h'⟩:=inv_do hl h s.1 s.2
  exact ih h'
theorem inv_all {l : List (List Cl)} (hl : rightL l) (steps : List (Int × Int)) : ∃ ks bz,MInv l (playM (newMc l) steps) ks bz:=inv_play hl steps (inv_new l)
end Go.Mk

namespace Go.Mk
open Go Go.RowKit

structure SizeM (m : Mc) (k : Nat) : Prop where
 undo : m.store.undo.length ≤ k
 answers : m.store.answers.length ≤ k
 past : m.store.past.length ≤ k
 box : m.server.box.length ≤ k
 each : ∀ c ∈ m.clients,c.got.length ≤ k ∧ c.box.length ≤ k

theorem SizeM.mono {m : Mc} {k j : Nat} (h : SizeM m k) (hk : k ≤ j) : SizeM m j :=
 ⟨Nat.le_trans h.undo hk,Nat.le_trans h.answers hk,Nat.le_trans h.past hk,Nat.le_trans h.box hk,fun c hc=>⟨Nat.le_trans (h.each c hc).1 hk,Nat.le_trans (h.each c hc).2 hk⟩⟩
theorem size_new (l : List (List Cl)) : SizeM (newMc l) 0:=⟨Nat.le_refl _,Nat.le_refl _,Nat.le_refl _,Nat.le_refl _,fun c hc=>by
 have hc' : c ∈ l.map newCn:=hc
 obtain ⟨x,_,rfl⟩:=List.mem_map.1 hc'
 exact ⟨Nat.le_refl _,Nat.le_refl _⟩⟩

theorem write_lens (s : St) (p : Int × Int) : (writeSt s p).undo.length ≤ s.undo.length + 1 ∧ (writeSt s p).answers = s.answers ∧ (writeSt s p).past = s.past:=by
 unfold writeSt
 split
 ·exact ⟨by simp,rfl,rfl⟩
 ·exact ⟨by omega,rfl,rfl⟩

theorem size_serve {s : St} {v : Sv} {k : Nat} (h1 : s.undo.length ≤ k) (h2 : s.answers.length ≤ k) (h3 : s.past.length ≤ k) (h4 : v.box.length ≤ k) :
  (serveM s v).1.undo.length ≤ k + 1 ∧ (serveM s v).1.answers.length ≤ k + 1 ∧ (serveM s v).1.past.length ≤ k + 1 ∧ (serveM s v).2.1.box.length ≤ k:=by
 unfold serveM
 split
 ·split
  ·rename_i p l _
   obtain ⟨w1,w2,w3⟩:=write_lens s p
   refine ⟨by simp only []; omega,by simp only [w2]; omega,by simp only [w3]; omega,h4⟩
  ·have:=length_putAn s.answers ⟨v.now.client,v.now.token,v.says⟩
   refine ⟨by simp [commitSt],by simp only [commitSt]; omega,by simp only [commitSt,List.length_append,List.length_cons,List.length_nil]; omega,h4⟩
 ·split
  ·exact ⟨by simp only []; omega,by simp only []; omega,by simp only []; omega,h4⟩
  ·rename_i b l hb
   rw [hb] at h4
   have h5 : l.length ≤ k:=by simp only [List.length_cons] at h4; omega
   dsimp only
   repeat' split
   all_goals exact ⟨by simp only []; omega,by simp only []; omega,by simp only []; omega,h5⟩

theorem size_go {c : Cn} {k : Nat} (me gen : Int) (up : Bool) (h1 : c.got.length ≤ k) (h2 : c.box.length ≤ k) : (goCn c me gen up).1.got.length ≤ k + 1 ∧ (goCn c me gen up).1.box.length ≤ k + 1:=by
 unfold goCn
 split
 ·rename_i b l hb
  rw [hb] at h2
  have h5 : l.length ≤ k:=by simp only [List.length_cons] at h2; omega
  dsimp only
  split
  ·exact ⟨by simp only [List.length_append,List.length_cons,List.length_nil]; omega,by simp only []; omega⟩
  ·exact ⟨by simp only []; omega,by simp only []; omega⟩
 ·repeat' split
  all_goals exact ⟨by simp only []; omega,by simp only []; omega⟩

theorem size_come (v : Sv) (b : List UInt8) {k : Nat} (h : v.box.length ≤ k) : (comeSv v b).1.box.length ≤ k + 1:=by
 unfold comeSv
 split
 ·simp only []; omega
 ·simp only [List.length_append,List.length_cons,List.length_nil]; omega
theorem size_hear (c : Cn) (b : List UInt8) {k : Nat} (h1 : c.got.length ≤ k) (h2 : c.box.length ≤ k) : (comeCn c b).got.length ≤ k + 1 ∧ (comeCn c b).box.length ≤ k + 1:=by
 unfold comeCn
 split
 ·exact ⟨by simp only []; omega,by simp only [List.length_append,List.length_cons,List.length_nil]; omega⟩
 ·omega
theorem size_set {cl : List Cn} {k : Nat} (h : ∀ c ∈ cl,c.got.length ≤ k ∧ c.box.length ≤ k) (i : Nat) {x : Cn} (hx : x.got.length ≤ k + 1 ∧ x.box.length ≤ k + 1) : ∀ c ∈ cl.set i x,c.got.length ≤ k + 1 ∧ c.box.length ≤ k + 1:=fun c hc=>by
 rcases List.mem_or_eq_of_mem_set hc with h1 | rfl
 ·have:=h c h1; omega
 ·exact hx
theorem size_get {cl : List Cn} {k : Nat} (h : ∀ c ∈ cl,c.got.length ≤ k ∧ c.box.length ≤ k) (i : Nat) : (cl.getD i (newCn [])).got.length ≤ k ∧ (cl.getD i (newCn [])).box.length ≤ k:=by
 by_cases hi : i < cl.length
 ·exact h _ (getD_mem hi)
 ·rw [List.getD_eq_getElem?_getD,List.getElem?_eq_none (by omega)]
  exact ⟨Nat.zero_le _,Nat.zero_le _⟩

theorem size_do {m : Mc} {k : Nat} (h : SizeM m k) (kind n : Int) : SizeM (doM m kind n).1 (k + 1):=by
 have hm:=h.mono (Nat.le_succ k)
 unfold doM
 split
 ·split
  ·exact hm
  ·dsimp only
   have hg:=size_get h.each n.toNat
   have hgo:=size_go n m.server.gen m.up hg.1 hg.2
   split
   ·exact hm
   ·split
    ·split
     ·exact hm
     ·exact ⟨hm.undo,hm.answers,hm.past,size_come _ _ h.box,size_set h.each _ hgo⟩
    ·exact ⟨hm.undo,hm.answers,hm.past,hm.box,size_set h.each _ hgo⟩
 ·split
  ·split
   ·exact hm
   ·dsimp only
    obtain ⟨s1,s2,s3,s4⟩:=size_serve h.undo h.answers h.past h.box
    split
    ·exact hm
    ·split
     ·split
      ·have hg:=size_get h.each ((serveM m.store m.server).2.2.1.getD 1 0).toNat
       exact ⟨s1,s2,s3,Nat.le_succ_of_le s4,size_set h.each _ (size_hear _ _ hg.1 hg.2)⟩
      ·exact ⟨s1,s2,s3,Nat.le_succ_of_le s4,hm.each⟩
     ·exact ⟨s1,s2,s3,Nat.le_succ_of_le s4,hm.each⟩
  ·split
   ·unfold fallM
    split
    ·exact hm
    ·split
     ·exact hm
     ·exact ⟨hm.undo,hm.answers,hm.past,Nat.zero_le _,hm.each⟩
   ·split
    ·unfold tickM
     split
     ·exact hm
     ·split
      ·exact ⟨hm.undo,hm.answers,hm.past,hm.box,hm.each⟩
      ·exact ⟨Nat.zero_le _,hm.answers,hm.past,Nat.zero_le _,hm.each⟩
    ·exact hm
end Go.Mk

namespace Go.Mk
open Go Go.RowKit

theorem run_append_fresh {P : Program} (w : World) (base : Nat) (t ty e : TypeId) (i : TypeInfo) (z : Value) (size bytes : Nat) (ht : P.underlying t = some (.slice e)) (hi : P.info? e = some i) (hz : i.zero = some z)
  (hsize : i.size = size) (hby : i.bytes = bytes) (hzs : z.cells.size = size) (hsz : 0 < size)
  (v : Value) (n : Nat) (xs : List Value) (hown : w.ownsRow base e size v n xs) (u : Value) (m : Nat) (news : List Value) (hu : Row w size u m news) (h1 : ∀ u ∈ news,u.oneCell' = true)
  (hbytes : (n + m) * bytes ≤ 140737488355328) (hpos : 0 < bytes) (hbase : base ≤ w.heap.size) :
  ∃ v' w',(Builtin.append_ #[t,t] ty #[v,u]).run P w = .ok v' w' ∧ w'.ownsRow base e size v' (n + m) (xs ++ news) ∧ w.grownBy w' v.ownBlock ∧ (v'.ownBlock = v.ownBlock ∨ ∀ g,v'.ownBlock = some g → w.heap.size ≤ g):=by
 obtain ⟨v',w',hrun,h2,h3⟩:=run_append_row (P:=P) w base t ty e i z size bytes ht hi hz hsize hby hzs hsz v n xs hown u m news hu h1 hbytes hpos hbase
 refine ⟨v',w',hrun,h2,h3,?_⟩
 have h63 : n + m ≤ maxLen:=by
  have : n + m ≤ (n + m) * bytes:=Nat.le_mul_of_pos_right _ hpos
  unfold maxLen
  omega
 rcases hown.2 with ⟨rfl,hn⟩ | ⟨g,cap,cur,rfl,hbg,hg,hnc,hcm,hcs,htake⟩
 ·-- onto nothing: whatever comes is new
  subst hn
  have hx : xs = []:=List.eq_nil_of_length_eq_zero (by simpa using hown.1)
  subst hx
  obtain ⟨v2,w2,hrun2,h4,_⟩:=run_append_row (P:=P) w w.heap.size t ty e i z size bytes ht hi hz hsize hby hzs hsz (.slice none 0 0) 0 [] (World.ownsRow_nil _ _ _ _) u m news hu h1 hbytes hpos (Nat.le_refl _)
  rw [hrun] at hrun2
  cases hrun2
  exact .inr fun g hgv=>(h4.lt g hgv).1
 ·obtain ⟨hl,ao,ucap,rfl,huc,hum,h0,hcell⟩:=hu
  cases ao with
  | none =>
   have hcap:=h0 rfl
   subst hcap
   have hm0 : m = 0:=by omega
   subst hm0
   have:=run_append_owned_none (P:=P) w base t ty e i size ht hi _ n xs hown
   rw [this] at hrun
   cases hrun
   exact .inl rfl
  | some ad =>
   have hsrc : ∀ j u,news[j]? = some u → w.cell? (ad.add j) = some u:=fun j u hj=>by
    obtain ⟨b,off,e',hc'⟩:=hcell j u hj
    simp only [Option.some.injEq] at e'
    subst e'
    rw [add_plain]; exact hc'
   by_cases hroom : n + m ≤ cap
   ·subst hsize
    have hr:=run_append_room (P:=P) w t ty e i ht hi g n cap cur hg ad m ucap news hl hsrc h1 hroom (by rw [hcs,hl,← Nat.add_mul]; exact Nat.mul_le_mul_right _ hroom)
    rw [hrun] at hr
    cases hr
    exact .inl rfl
   ·obtain ⟨v2,w2,hrun2,r1,_⟩:=run_append_arg_grows (P:=P) w t ty e i z size bytes ht hi hz hsize hby hzs hsz ⟨g,0,none⟩ n cap xs hown.1 (hown.cells (g:=g) rfl) ad m ucap news hl hsrc (by omega) h63 hbytes
    rw [hrun] at hrun2
    cases hrun2
    exact .inr fun g hgv=>(r1.lt g hgv).1

section
variable {P : Program} {ops : Array Oper} {rest : List Oper} {o : Oper} {a : Act} {w : World} {Q : Exit → Act → World → Prop}
theorem wpList_append_fresh (hgd : o.guard = none) (s x : Operand) (t : TypeId) (ho : o.op = .call { callee:=.builtin .append,args:=#[s,x],argTypes:=#[t,t] })
  (base : Nat) (e : TypeId) (i : TypeInfo) (z : Value) (size bytes : Nat) (ht : P.underlying t = some (.slice e)) (hi : P.info? e = some i) (hz : i.zero = some z)
  (hsize : i.size = size) (hby : i.bytes = bytes) (hzs : z.cells.size = size) (hsz : 0 < size)
  (v : Value) (n : Nat) (xs : List Value) (hs : a.eval s = v) (hown : w.ownsRow base e size v n xs) (u : Value) (hx : a.eval x = u) (m : Nat) (news : List Value) (hu : Row w size u m news) (h1 : ∀ u ∈ news,u.oneCell' = true)
  (hbytes : (n + m) * bytes ≤ 140737488355328) (hpos : 0 < bytes) (hbase : base ≤ w.heap.size)
  (h : ∀ v' w',w'.ownsRow base e size v' (n + m) (xs ++ news) → w.grownBy w' v.ownBlock → (v'.ownBlock = v.ownBlock ∨ ∀ g,v'.ownBlock = some g → w.heap.size ≤ g) → wpList P ops Q rest (a.put o.dst v') w') : wpList P ops Q (o :: rest) a w:=by
 refine wpList_plain hgd fun K hK=>?_
 obtain ⟨v',w',hrun,h2,h3,h4⟩:=run_append_fresh (P:=P) w base t o.type e i z size bytes ht hi hz hsize hby hzs hsz v n xs hown u m news hu h1 hbytes hpos hbase
 unfold Oper.wp
 simp [execOp,ho,resolve,invoke,builtin,hs,hx,hrun,Result.andThen]
 exact hK _ _ (h v' w' h2 h3 h4)
end
end Go.Mk

namespace Go.Mk
open Go Go.RowKit

/-- What a cell may have. -/
def OkAt (a n : Int) : Prop:=(a = 0 → 0 ≤ n ∧ n ≤ 5) ∧ (a % 2 = 1 → 0 ≤ n ∧ n ≤ 255) ∧ (a ≠ 0 → a % 2 = 0 → -1073741824 ≤ n ∧ n ≤ 1073741824)
def Wk (xs : List Int) : Prop:=xs.length = 11 ∧ ∀ i : Nat,i < 11 → OkAt i (xs.getD i 0)

theorem wk_set {xs : List Int} (h : Wk xs) {p : Int × Int} (hp : OkAt p.1 p.2) : Wk (set1 xs p):=by
 unfold set1
 split
 ·rename_i hr
  have hl:=h.1
  refine ⟨by simp [hl],fun i hi=>?_⟩
  by_cases he : p.1.toNat = i
  ·have h2 : p.1.toNat < xs.length:=by omega
   rw [List.getD_eq_getElem?_getD,List.getElem?_set,if_pos he,if_pos h2]
   have h3 : (i : Int) = p.1:=by omega
   rw [h3]
   exact hp
  ·rw [List.getD_eq_getElem?_getD,List.getElem?_set,if_neg he,← List.getD_eq_getElem?_getD]
   exact h.2 i hi
 ·exact h
theorem wk_setAll : ∀ (l : List (Int × Int)) {xs : List Int},Wk xs → (∀ p ∈ l,OkAt p.1 p.2) → Wk (setAll xs l)
 | [],_,h,_=>h
 | p :: l,_,h,hl=>wk_setAll l (wk_set h (hl p (by simp))) (fun q hq=>hl q (by simp [hq]))
theorem Wk.weak {xs : List Int} (h : Wk xs) : Weak xs:=by
 obtain ⟨hl,h2⟩:=h
 have h0:=(h2 0 (by decide)).1 rfl
 refine ⟨hl,h0.1,h0.2,by rw [length_ofCells]; omega,fun p hp=>?_⟩
 unfold ofCells at hp
 obtain ⟨i,hi,rfl⟩:=List.mem_map.1 hp
 rw [List.mem_range] at hi
 have h3:=(h2 (1 + 2 * i) (by omega)).2.1 (by omega)
 have h4:=(h2 (1 + 2 * i + 1) (by omega)).2.2 (by omega) (by omega)
 exact ⟨h3.1,h3.2,h4.1,h4.2⟩

theorem name_right {k a o n : Int} (h : wrongCl ⟨k,a,o,n⟩ = 0) : k ≠ 5 → 1 ≤ a ∧ a ≤ 255:=fun hk=>by
 unfold wrongCl at h
 simp only [] at h
 repeat' split at h
 all_goals first | (exact absurd h (by decide)) | omega

theorem ok_num' (i : Nat) (n : Int) (h1 : -1073741824 ≤ n) (h2 : n ≤ 1073741824) : OkAt (2 + 2 * (i : Int)) n:=⟨fun h=>by omega,fun h=>by omega,fun _ _=>⟨h1,h2⟩⟩
theorem ok_name (i : Nat) (n : Int) (h1 : 0 ≤ n) (h2 : n ≤ 255) : OkAt (1 + 2 * (i : Int)) n:=⟨fun h=>by omega,fun _=>⟨h1,h2⟩,fun _ h=>by omega⟩
theorem ok_count (n : Int) (h1 : 0 ≤ n) (h2 : n ≤ 5) : OkAt 0 n:=⟨fun _=>⟨h1,h2⟩,fun h=>by omega,fun h=>absurd rfl h⟩

theorem plan_okAt {l : List (Int × Int)} {c : Cl} (h : Okw l) (hc : wrongCl c = 0) : ∀ p ∈ planCl l c,OkAt p.1 p.2:=by
 obtain ⟨k,a,o,n⟩:=c
 have hn:=name_right hc
 obtain ⟨hk,hr⟩:=wrongCl_zero hc
 have hl:=h.len
 intro p hp
 unfold planCl at hp
 split at hp
 ·cases hp
 rename_i he
 have he0 : (doCl l ⟨k,a,o,n⟩).2.err = 0:=by simpa using he
 clear he
 rcases hk with rfl | rfl | rfl | rfl | rfl | rfl
 ·have hr2:=hr (.inl rfl)
  have hn2:=hn (by decide)
  rw [doCl_put] at he0
  by_cases ha : at1 l a < l.length
  ·simp [planX,ha] at hp
   subst hp
   exact ok_num' _ _ hr2.1 hr2.2
  ·by_cases h5 : 5 ≤ l.length
   ·rw [if_neg ha,if_pos h5] at he0
    exact absurd he0 (by simp)
   ·simp [planX,ha] at hp
    rcases hp with rfl | rfl | rfl
    ·exact ok_name _ _ (by omega) hn2.2
    ·exact ok_num' _ _ hr2.1 hr2.2
    ·exact ok_count _ (by omega) (by omega)
 ·simp [planX] at hp
 ·rw [doCl_drop] at he0
  by_cases ha : at1 l a < l.length
  ·have hq:=h.at (i:=l.length - 1) (by omega)
   by_cases hm : at1 l a + 1 < l.length
   ·have e : planX l ⟨3,a,o,n⟩ = [(1 + 2 * (at1 l a : Int),(l.getD (l.length - 1) (0,0)).1),(2 + 2 * (at1 l a : Int),(l.getD (l.length - 1) (0,0)).2),(0,(l.length : Int) - 1)]:=by simp [planX,hm]
    rw [e] at hp
    simp only [List.mem_cons,List.not_mem_nil,or_false] at hp
    rcases hp with rfl | rfl | rfl
    ·exact ok_name _ _ hq.1 hq.2.1
    ·exact ok_num' _ _ hq.2.2.1 hq.2.2.2
    ·exact ok_count _ (by simp only []; omega) (by simp only []; omega)
   ·simp [planX,hm] at hp
    subst hp
    exact ok_count _ (by simp only []; omega) (by simp only []; omega)
  ·rw [if_pos ha] at he0
   exact absurd he0 (by simp)
 ·rw [doCl_add] at he0
  by_cases ha : at1 l a < l.length
  ·rw [if_neg (by simpa using ha)] at he0
   by_cases hs : -1073741824 ≤ num l (at1 l a) + n ∧ num l (at1 l a) + n ≤ 1073741824
   ·simp [planX] at hp
    subst hp
    exact ok_num' _ _ hs.1 hs.2
   ·rw [if_pos hs] at he0
    exact absurd he0 (by simp)
  ·rw [if_pos ha] at he0
   exact absurd he0 (by simp)
 ·simp [planX] at hp
 ·rw [doCl_swap'] at he0
  by_cases ha : at1 l a < l.length
  ·rw [if_neg (by simpa using ha)] at he0
   by_cases hb : at1 l o < l.length
   ·have h1:=(h.at ha).2.2
    have h2:=(h.at hb).2.2
    simp [planX] at hp
    rcases hp with rfl | rfl
    ·exact ok_num' _ _ h2.1 h2.2
    ·exact ok_num' _ _ h1.1 h1.2
   ·rw [if_pos hb] at he0
    exact absurd he0 (by simp)
  ·rw [if_pos ha] at he0
   exact absurd he0 (by simp)

theorem right_req_call {b : List UInt8} (h : (readRq b).2 = 0) : wrongCl (readRq b).1.call = 0:=by
 have h1 : wrongRq (readRq b).1 = 0:=by
  unfold readRq at *
  split at h
  ·exact absurd h (by decide)
  ·split at h
   ·rename_i h2 h3; exact absurd h h3
   ·rename_i h2 h3
    rw [if_neg h2,if_neg h3]
    exact Classical.byContradiction h3
 exact (wrongRq_parts h1).2

/-- Of a store and a server: cells, what takes writes back, and what is left to write. -/
structure WkP (s : St) (v : Sv) : Prop where
 cells : Wk s.cells
 undo : ∀ p ∈ s.undo,OkAt p.1 p.2
 plan : ∀ p ∈ v.plan,OkAt p.1 p.2

theorem wk_serve {s : St} {v : Sv} (h : WkP s v) : WkP (serveM s v).1 (serveM s v).2.1:=by
 unfold serveM
 split
 ·split
  ·rename_i p l hp
   have h1 : OkAt p.1 p.2:=h.plan p (by rw [hp]; simp)
   have h2 : ∀ q ∈ l,OkAt q.1 q.2:=fun q hq=>h.plan q (by rw [hp]; simp [hq])
   simp only []
   unfold writeSt
   split
   ·rename_i hr
    refine ⟨wk_set h.cells h1,fun q hq=>?_,h2⟩
    simp only [List.mem_cons] at hq
    rcases hq with rfl | hq
    ·have h3:=h.cells.2 p.1.toNat (by have:=h.cells.1; omega)
     rwa [show ((p.1.toNat : Nat) : Int) = p.1 by omega] at h3
    ·exact h.undo q hq
   ·exact ⟨h.cells,h.undo,h2⟩
  ·exact ⟨h.cells,fun q hq=>(by cases hq),fun q hq=>(by cases hq)⟩
 ·split
  ·exact h
  ·rename_i b l hb
   dsimp only
   repeat' split
   ·exact ⟨h.cells,h.undo,h.plan⟩
   ·exact ⟨h.cells,h.undo,h.plan⟩
   ·exact ⟨h.cells,h.undo,h.plan⟩
   ·rename_i hr _
    have hr2 : (readRq b).2 = 0:=by simpa using hr
    exact ⟨h.cells,h.undo,plan_okAt h.cells.weak.2.2.2 (right_req_call hr2)⟩

theorem wk_new (l : List (List Cl)) : WkP (newMc l).store (newMc l).server:=by
 refine ⟨⟨rfl,fun i hi=>?_⟩,fun p hp=>(by cases hp),fun p hp=>(by cases hp)⟩
 have : (newMc l).store.cells.getD i 0 = 0:=by
  have h11 : ∀ i,i < 11 → (List.replicate 11 (0 : Int)).getD i 0 = 0:=by decide
  exact h11 i hi
 rw [this]
 exact ⟨fun _=>by omega,fun _=>by omega,fun _ _=>by omega⟩

theorem wk_do {m : Mc} (h : WkP m.store m.server) (kind n : Int) : WkP (doM m kind n).1.store (doM m kind n).1.server:=by
 unfold doM
 split
 ·split
  ·exact h
  ·dsimp only
   split
   ·exact h
   ·split
    ·split
     ·exact h
     ·refine ⟨h.cells,h.undo,?_⟩
      unfold comeSv
      split
      ·exact h.plan
      ·exact h.plan
    ·exact ⟨h.cells,h.undo,h.plan⟩
 ·split
  ·split
   ·exact h
   ·have hs:=wk_serve h
    dsimp only
    repeat' split
    all_goals first | exact h | exact hs
  ·split
   ·unfold fallM
    repeat' split
    ·exact h
    ·exact h
    ·exact ⟨h.cells,h.undo,fun q hq=>by cases hq⟩
   ·split
    ·unfold tickM
     repeat' split
     ·exact h
     ·exact h
     ·exact ⟨wk_setAll _ h.cells h.undo,fun q hq=>(by cases hq),fun q hq=>(by cases hq)⟩
    ·exact h

theorem wk_play {m : Mc} (h : WkP m.store m.server) : ∀ steps : List (Int × Int),WkP (playM m steps).store (playM m steps).server:=fun steps=>by
 unfold playM
 induction steps generalizing m with
 | nil=>exact h
 | cons p l ih=>exact ih (wk_do h p.1 p.2)

theorem size_play {m : Mc} {k : Nat} (h : SizeM m k) : ∀ steps : List (Int × Int),SizeM (playM m steps) (k + steps.length):=fun steps=>by
 unfold playM
 induction steps generalizing m k with
 | nil=>exact h
 | cons p l ih =>
  have:=ih (size_do h p.1 p.2)
  rw [List.length_cons,show k + (l.length + 1) = k + 1 + l.length by omega]
  exact this

end Go.Mk

namespace Go.Mk
open Go Go.RowKit

structure Sy (s : St) (v : Sv) (k : Nat) : Prop where
 wk : WkP s v
 undo : s.undo.length ≤ k
 answers : s.answers.length ≤ k
 past : s.past.length ≤ k
 box : v.box.length ≤ k
 bytes : ∀ b ∈ v.box,b.length ≤ 140737488355328
 plan : v.plan.length ≤ 3

theorem sy_serve {s : St} {v : Sv} {k : Nat} (h : Sy s v k) : Sy (serveM s v).1 (serveM s v).2.1 (k + 1):=by
 obtain ⟨h1,h2,h3,h4⟩:=size_serve (s:=s) (v:=v) h.undo h.answers h.past h.box
 have hb : (∀ b ∈ (serveM s v).2.1.box,b.length ≤ 140737488355328) ∧ (serveM s v).2.1.plan.length ≤ 3:=by
  have hp:=h.plan
  have hx:=h.bytes
  unfold serveM
  split
  ·split
   ·rename_i p l hpl
    rw [hpl] at hp
    exact ⟨hx,by simp only [List.length_cons] at hp; simp only []; omega⟩
   ·exact ⟨hx,by simp [idleSv]⟩
  ·split
   ·exact ⟨hx,hp⟩
   ·rename_i b l hbl
    have hx2 : ∀ b ∈ l,b.length ≤ 140737488355328:=fun c hc=>hx c (by rw [hbl]; simp [hc])
    dsimp only
    repeat' split
    ·exact ⟨hx2,hp⟩
    ·exact ⟨hx2,hp⟩
    ·exact ⟨hx2,hp⟩
    ·exact ⟨hx2,plan_len _ _⟩
 exact ⟨wk_serve h.wk,h1,h2,h3,Nat.le_trans h4 (Nat.le_succ _),hb.1,hb.2⟩

theorem sy_come {s : St} {v : Sv} {k : Nat} (h : Sy s v k) {b : List UInt8} (hb : b.length ≤ 140737488355328) : Sy s (comeSv v b).1 (k + 1):=by
 unfold comeSv
 split
 ·exact ⟨h.wk,Nat.le_succ_of_le h.undo,Nat.le_succ_of_le h.answers,Nat.le_succ_of_le h.past,Nat.le_succ_of_le h.box,h.bytes,h.plan⟩
 ·refine ⟨⟨h.wk.cells,h.wk.undo,h.wk.plan⟩,Nat.le_succ_of_le h.undo,Nat.le_succ_of_le h.answers,Nat.le_succ_of_le h.past,?_,fun c hc=>?_,h.plan⟩
  ·have:=h.box
   simp only [List.length_append,List.length_cons,List.length_nil]
   omega
  ·simp only [List.mem_append,List.mem_singleton] at hc
   rcases hc with hc | rfl
   ·exact h.bytes c hc
   ·exact hb

theorem sy_play {l : List (List Cl)} (hl : rightL l) (steps : List (Int × Int)) : Sy (playM (newMc l) (steps.take 400)).store (playM (newMc l) (steps.take 400)).server 400:=by
 obtain ⟨ks,bz,h⟩:=inv_all hl (steps.take 400)
 have hs:=(size_play (size_new l) (steps.take 400)).mono (j:=400) (by rw [List.length_take]; omega)
 refine ⟨wk_play (wk_new l) _,hs.undo,hs.answers,hs.past,hs.box,fun b hb=>?_,?_⟩
 ·rw [h.box] at hb
  obtain ⟨k,_,rfl⟩:=List.mem_map.1 hb
  exact Nat.le_trans (Nat.le_of_eq rfl) (by decide : (10 : Nat) ≤ 140737488355328)
 ·cases hz : bz with
  | none =>
   rw [h.idle hz]
   simp [idleSv]
  | some i=>exact (h.work i hz).2.2.2.2

end Go.Mk

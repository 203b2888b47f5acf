/- Texts of the proof, merged: Math24. -/
import Derived.Test.YtdmipnnfooleladGreatJD

namespace Go.Mk
open Go Go.RowKit

def wrs (s : St) (l : List (Int × Int)) : St:=l.foldl writeSt s
theorem write_cells (s : St) (p : Int × Int) : (writeSt s p).cells = set1 s.cells p ∧ (writeSt s p).past = s.past:=by
 unfold writeSt set1
 split <;> exact ⟨rfl,rfl⟩
theorem wrs_cells : ∀ (l : List (Int × Int)) (s : St),(wrs s l).cells = setAll s.cells l ∧ (wrs s l).past = s.past
 | [],_=>⟨rfl,rfl⟩
 | p :: l,s=>by
  obtain ⟨h1,h2⟩:=wrs_cells l (writeSt s p)
  obtain ⟨h3,h4⟩:=write_cells s p
  exact ⟨by show (wrs (writeSt s p) l).cells = _; rw [h1,h3]; rfl,by show (wrs (writeSt s p) l).past = _; rw [h2,h4]⟩

def busyV (v : Sv) (q : Rq) (P : List (Int × Int)) (r : Rp) : Sv:={ v with box:=[],busy:=true,now:=q,plan:=P,says:=r }
/-- Behind k steps. -/
def stD (s : St) (v nv : Sv) (q : Rq) (P : List (Int × Int)) (r : Rp) : Nat → St × Sv
 | 0=>(s,nv)
 | k + 1=>(wrs s (P.take k),busyV v q (P.drop k) r)

theorem does_take {s : St} {v : Sv} {q : Rq} (hq : wrongRq q = 0) (hl : ¬ ((lastAn s.answers q.client).2 = true ∧ q.token ≤ (lastAn s.answers q.client).1.token)) (hb : v.busy = false) (hx : v.box = []) :
  ∃ nv,comeSv v (reqB q) = (nv,0) ∧ serveM s nv = (s,busyV v q (planCl (namesOf s.cells) q.call) (doCl (namesOf s.cells) q.call).2,[],0):=by
 have hr:=readRq_req hq
 refine ⟨{ v with box:=[reqB q] },?_,?_⟩
 ·unfold comeSv
  rw [hx]
  rfl
 ·unfold serveM
  dsimp only
  rw [hb,hr]
  dsimp only
  rw [if_neg (by simp),if_neg (by simp),if_neg hl]
  rfl
theorem does_step {s : St} {v nv : Sv} {q : Rq} {P : List (Int × Int)} {r : Rp} (h0 : serveM s nv = (s,busyV v q P r,[],0)) {k : Nat} (hk : k ≤ P.length) :
  serveM (stD s v nv q P r k).1 (stD s v nv q P r k).2 = ((stD s v nv q P r (k + 1)).1,(stD s v nv q P r (k + 1)).2,[],0):=by
 cases k with
 | zero=>exact h0
 | succ j =>
  have hj : j < P.length:=by omega
  show serveM (wrs s (P.take j)) (busyV v q (P.drop j) r) = (wrs s (P.take (j + 1)),busyV v q (P.drop (j + 1)) r,[],0)
  rw [List.drop_eq_getElem_cons hj,List.take_add_one,List.getElem?_eq_getElem hj]
  have : wrs s (P.take j ++ [P[j]]) = writeSt (wrs s (P.take j)) P[j]:=by unfold wrs; rw [List.foldl_append]; rfl
  show _ = (wrs s (P.take j ++ [P[j]]),_,_,_)
  rw [this]
  rfl
theorem does_done {s : St} {v nv : Sv} {q : Rq} {P : List (Int × Int)} {r : Rp} :
  serveM (stD s v nv q P r (P.length + 1)).1 (stD s v nv q P r (P.length + 1)).2 = (commitSt (wrs s P) q r,idleSv v.gen [],ansB ⟨q.client,q.token,r⟩,0):=by
 show serveM (wrs s (P.take P.length)) (busyV v q (P.drop P.length) r) = _
 rw [List.take_length,List.drop_length]
 rfl
theorem up_right {l : List (List Cl)} (hl : rightL l) (steps : List (Int × Int)) {m : Mc} (hm : playM (newMc l) (steps.take 400) = m) (hu : m.up = true) (hb : m.server.busy = false) : wrongOf m.store.cells = 0:=by
 obtain ⟨ks,bz,h⟩:=inv_all hl (steps.take 400)
 rw [hm] at h
 have h1 : bz = none:=by
  have:=h.busy
  rw [hb] at this
  cases bz with
  | none=>rfl
  | some i=>cases this
 have h2:=h.right
 rw [h.clean hu h1] at h2
 exact h2

end Go.Mk

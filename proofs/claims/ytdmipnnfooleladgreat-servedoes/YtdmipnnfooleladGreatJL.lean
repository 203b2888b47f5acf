/- Texts of the proof, merged: R1 R2 R3 R4 R5 R6 R7 D4 D5 D5b. -/
import Derived.Test.YtdmipnnfooleladGreatJG
import Derived.Test.YtdmipnnfooleladGreatJB
import Derived.Lib.Hide

namespace Go.Proofs.YtdmipnnfooleladGreat
open Go.RowKit Go.Mk
set_option maxRecDepth 100000

/-- All with that name have the number; if there is none, it is put last. -/
def setR (l : List (Int × Int)) (name n : Int) : List (Int × Int):=l.map fun p=>if p.1 = name then (p.1,n) else p

theorem setR_snoc (l : List (Int × Int)) (p : Int × Int) (name n : Int) : setR (l ++ [p]) name n = setR l name n ++ [if p.1 = name then (p.1,n) else p]:=by simp [setR]

theorem length_setR (l : List (Int × Int)) (name n : Int) : (setR l name n).length = l.length:=by simp [setR]

theorem setR_put1 {l : List (Int × Int)} (h : Okn l) {name : Int} (ha : at1 l name < l.length) (n : Int) : setR l name n = put1 l (at1 l name) n:=by
 refine ext_getD (by rw [length_setR,length_put1]) fun j hj=>?_
 rw [length_setR] at hj
 rw [getD_put1 _ _ _ _ ha]
 have e : (setR l name n).getD j (0,0) = if (l.getD j (0,0)).1 = name then ((l.getD j (0,0)).1,n) else l.getD j (0,0):=by
  simp [setR,List.getD_eq_getElem?_getD,hj]
 rw [e]
 by_cases hn : (l.getD j (0,0)).1 = name
 ·have : at1 l name = j:=h.uni ha hj (by rw [at1_hit ha,hn])
  rw [if_pos hn,if_pos this]
 ·have : at1 l name ≠ j:=fun e=>hn (by rw [← e]; exact at1_hit ha)
  rw [if_neg hn,if_neg this]

theorem setR_none {l : List (Int × Int)} {name : Int} (ha : ¬ at1 l name < l.length) (n : Int) : setR l name n = l:=by
 have e : at1 l name = l.length:=by have:=at1_le l name; omega
 refine ext_getD (length_setR _ _ _) fun j hj=>?_
 rw [length_setR] at hj
 have hn : (l.getD j (0,0)).1 ≠ name:=at1_before (by omega)
 simp [setR,List.getD_eq_getElem?_getD,hj] at hn ⊢
 intro h
 exact absurd h hn

/-- What a name has; 0, if it is not there. -/
def getR (l : List (Int × Int)) (name : Int) : Int:=if at1 l name < l.length then num l (at1 l name) else 0

def isR (l : List (Int × Int)) (name : Int) : Bool:=decide (at1 l name < l.length)

/-- It is among the first k. -/
def seenR (l : List (Int × Int)) (name : Int) (k : Nat) : Bool:=decide (at1 l name < k)

theorem getR_hit {l : List (Int × Int)} {name : Int} (h : at1 l name < l.length) : getR l name = num l (at1 l name):=if_pos h

theorem isR_hit {l : List (Int × Int)} {name : Int} (h : at1 l name < l.length) : isR l name = true:=decide_eq_true h

theorem getR_none {l : List (Int × Int)} {name : Int} (h : ¬ at1 l name < l.length) : getR l name = 0:=if_neg h

theorem isR_none {l : List (Int × Int)} {name : Int} (h : ¬ at1 l name < l.length) : isR l name = false:=decide_eq_false h

set_option maxHeartbeats 400000 in
theorem rget_any (v : Value) (l : List (Int × Int)) (name : Int) (w : World) (hv : Writes w v l) :
  Calls Tryz.prog 42 #[v,I name] w fun e w'=>e = .returned (.tuple #[I (getR l name),.bool (isR l name)]) ∧ Ext w w':=by
 obtain ⟨ao,cap,rfl,h1,h2,h3⟩:=hv.form
 unfold maxLen at h2
 clear hv
 go_enter Tryz.func42,Tryz.ntmps42
 go_wp2
 go_loopw [10] (fun i wr=>∃ k : Nat,k ≤ l.length ∧ i = I k ∧ (∀ j,j < k → (l.getD j (0,0)).1 ≠ name) ∧ Ext w wr) (fun i _=>l.length - (intOf i).toNat)
 case atStart=>exact ⟨0,by omega,rfl,fun j hj=>by omega,Ext.refl w⟩
 case round =>
  obtain ⟨k,hk,rfl,hf,he⟩:=hrel
  have HF : Hid (∀ j,j < k → (l.getD j (0,0)).1 ≠ name):=hf
  clear hf
  by_cases hlt : k < l.length
  ·obtain ⟨b,off,rfl,hc1,hc2⟩:=h3 k hlt
   clear h3
   have hd1:=he.cell hc1
   have hd2:=he.cell hc2
   clear hc1 hc2
   generalize hp : l.getD k (0,0) = p at hd1 hd2
   have HP : Hid (l.getD k (0,0) = p):=hp
   clear hp
   obtain ⟨at_,n⟩:=p
   simp only [] at hd1 hd2
   by_cases hn : at_ = name
   ·have hb : (at_ == name) = true:=by simp [hn]
    have HN : Hid (at_ = name):=hn
    clear hn
    go_wp2
    go_ret2
    have:=at1_of hlt (by rw [HP.out]; exact HN.out) HF.out
    refine ⟨?_,he.alloc _⟩
    have hnum : num l k = n:=by unfold num; rw [HP.out]
    rw [getR_hit (by omega),isR_hit (by omega),this,hnum]
    rfl
   ·have hb : (at_ == name) = false:=by simpa using hn
    have HN : Hid (at_ ≠ name):=hn
    clear hn
    go_wp2
    go_roundw
    case rel =>
     refine ⟨k + 1,by omega,by go_num,fun j hj=>?_,he.alloc _⟩
     by_cases hjk : j < k
     ·exact HF.out j hjk
     ·rw [show j = k by omega,HP.out]; exact HN.out
    case measure=>simp [intOf]; omega
  ·go_wp2
   go_ret2
   have:=at1_none (l:=l) (name:=name) (fun j hj=>HF.out j (by omega))
   refine ⟨?_,he⟩
   rw [getR_none (by omega),isR_none (by omega)]
   rfl

/-- .. put last, where it is not there. -/
def setX (l : List (Int × Int)) (name n : Int) : List (Int × Int):=setR l name n ++ if at1 l name < l.length then [] else [(name,n)]

theorem setX_hit {l : List (Int × Int)} {name n : Int} (h : at1 l name < l.length) : setX l name n = setR l name n:=by unfold setX; rw [if_pos h,List.append_nil]

theorem setX_none {l : List (Int × Int)} {name n : Int} (h : ¬ at1 l name < l.length) : setX l name n = setR l name n ++ [(name,n)]:=by unfold setX; rw [if_neg h]

set_option maxHeartbeats 1000000 in
theorem rset_any (v : Value) (l : List (Int × Int)) (name n : Int) (w : World) (hv : Writes w v l) (hr : (l.length + 1) * 16 ≤ 140737488355328) :
  Calls Tryz.prog 44 #[v,I name,I n] w fun e w'=>∃ r,e = .returned r ∧ Ext w w' ∧ Has w.heap.size w' r (setX l name n):=by
 obtain ⟨i0,hi,hz0,hz1,hz2⟩:=info_parts Tryz.infoWrite2
 obtain ⟨ao,cap,rfl,h1,h2,h3⟩:=hv.form
 unfold maxLen at h2
 clear hv
 go_enter Tryz.func44,Tryz.ntmps44
 go_wp2
 go_loopw [7,8,13] (fun o d i wr=>∃ k : Nat,k ≤ l.length ∧ i = I k ∧ d = .bool (seenR l name k) ∧ wr.ownsRow w.heap.size 79 2 o k (cells2 (setR (l.take k) name n)) ∧ Ext w wr) (fun _ _ i _=>l.length - (intOf i).toNat)
 case atStart=>exact ⟨0,by omega,rfl,by simp [seenR],World.ownsRow_nil _ _ _ _,Ext.refl w⟩
 case round =>
  obtain ⟨k,hk,rfl,rfl,ho,he⟩:=hrel
  by_cases hlt : k < l.length
  ·obtain ⟨b,off,rfl,hc1,hc2⟩:=h3 k hlt
   clear h3
   have hd1:=he.cell hc1
   have hd2:=he.cell hc2
   clear hc1 hc2
   have HB : Hid ((l.getD k (0,0)).1 = name → at1 l name ≤ k):=fun h=>Nat.le_of_not_lt fun hlt=>at1_before hlt h
   have HB2 : Hid ((l.getD k (0,0)).1 ≠ name → at1 l name ≠ k):=fun h e=>h (by rw [← e]; exact at1_hit (by omega))
   have HT : Hid (setR (l.take (k + 1)) name n = setR (l.take k) name n ++ [if (l.getD k (0,0)).1 = name then ((l.getD k (0,0)).1,n) else l.getD k (0,0)]):=by
    unfold Hid
    rw [List.take_add_one,List.getElem?_eq_getElem hlt,List.getD_eq_getElem?_getD,List.getElem?_eq_getElem hlt]
    exact setR_snoc _ _ _ _
   generalize l.getD k (0,0) = p at *
   obtain ⟨at_,m⟩:=p
   simp only [] at hd1 hd2 HB HB2 HT
   by_cases hn : at_ = name
   ·have hb : (at_ == name) = true:=by simp [hn]
    have HN : Hid (at_ = name):=hn
    clear hn
    go_wp2_with (at_builtin; refine stop_at ?_)
    unfold Hid
    refine wpList_append_row _ rfl (.tmp 23) (.tmp 25) 27 rfl w.heap.size 79 i0 (.agg #[.int .i64 0,.int .i64 0]) 2 16 Tryz.underlying27 hi hz0 hz1 hz2 rfl (by decide) u7 k (cells2 (setR (l.take k) name n)) rfl ((ho.alloc _).alloc _) _ rfl 1 [I at_,I n] (writes_lit1 _ _ [(at_,n)] _ 1 rfl rfl (by decide)) (cells2_one [(at_,n)]) (by omega) (by decide) (by have:=he.size; simp; omega) ?_
    intro o' w3 ho3 hg3
    have he3 : Ext w w3:=((he.alloc _).alloc _).grown hg3 (fun j hj=>(ho.lt j hj).1)
    clear hg3
    go_wp2
    go_roundw
    case rel =>
     refine ⟨k + 1,by omega,by go_num,?_,?_,he3⟩
     ·have:=HB.out HN.out
      simp [seenR]; omega
     ·rw [HT.out,if_pos HN.out,cells2_append]; exact ho3
    case measure=>simp [intOf]; omega
   ·have hb : (at_ == name) = false:=by simpa using hn
    have HN : Hid (at_ ≠ name):=hn
    clear hn
    go_wp2_with (at_builtin; refine stop_at ?_)
    unfold Hid
    refine wpList_append_row _ rfl (.tmp 23) (.tmp 25) 27 rfl w.heap.size 79 i0 (.agg #[.int .i64 0,.int .i64 0]) 2 16 Tryz.underlying27 hi hz0 hz1 hz2 rfl (by decide) u7 k (cells2 (setR (l.take k) name n)) rfl ((ho.alloc _).alloc _) _ rfl 1 [I at_,I m] (writes_lit1 _ _ [(at_,m)] _ 1 rfl rfl (by decide)) (cells2_one [(at_,m)]) (by omega) (by decide) (by have:=he.size; simp; omega) ?_
    intro o' w3 ho3 hg3
    have he3 : Ext w w3:=((he.alloc _).alloc _).grown hg3 (fun j hj=>(ho.lt j hj).1)
    clear hg3
    go_wp2
    go_roundw
    case rel =>
     refine ⟨k + 1,by omega,by go_num,?_,?_,he3⟩
     ·have:=HB2.out HN.out
      simp [seenR]; omega
     ·rw [HT.out,if_neg HN.out,cells2_append]; exact ho3
    case measure=>simp [intOf]; omega
  ·have hkl : k = l.length:=by omega
   subst hkl
   rw [List.take_of_length_le (Nat.le_refl _)] at ho
   by_cases ha : at1 l name < l.length
   ·have hse : seenR l name l.length = true:=by simp [seenR,ha]
    go_wp2
    go_ret
    refine ⟨_,rfl,he,?_⟩
    rw [setX_hit ha]
    exact ⟨_,_,_,ho,fun w2 h2=>writes_of_owns h2⟩
   ·have hse : seenR l name l.length = false:=by simp [seenR]; omega
    go_wp2_with (at_builtin; refine stop_at ?_)
    unfold Hid
    refine wpList_append_row _ rfl (.tmp 30) (.tmp 34) 27 rfl w.heap.size 79 i0 (.agg #[.int .i64 0,.int .i64 0]) 2 16 Tryz.underlying27 hi hz0 hz1 hz2 rfl (by decide) u7 l.length (cells2 (setR l name n)) rfl (ho.alloc _) _ rfl 1 [I name,I n] (writes_lit (l:=[(name,n)]) _ _ 1 rfl rfl (by decide)) (cells2_one [(name,n)]) (by omega) (by decide) (by have:=he.size; simp; omega) ?_
    intro o' w3 ho3 hg3
    have he3 : Ext w w3:=(he.alloc _).grown hg3 (fun j hj=>(ho.lt j hj).1)
    clear hg3
    go_wp2
    go_ret
    refine ⟨_,rfl,he3,?_⟩
    rw [setX_none ha]
    rw [show cells2 (setR l name n) ++ [I name,I n] = cells2 (setR l name n ++ [(name,n)]) from (cells2_append _ [(name,n)]).symm] at ho3
    exact ⟨_,_,_,ho3,fun w2 h2=>writes_of_owns h2⟩

end Go.Proofs.YtdmipnnfooleladGreat

namespace Go.Proofs.YtdmipnnfooleladGreat
open Go.RowKit Go.Mk
set_option maxRecDepth 100000

theorem setX_last {l : List (Int × Int)} {name : Int} (ha : ¬ at1 l name < l.length) (n : Int) : setX l name n = l ++ [(name,n)]:=by rw [setX_none ha,setR_none ha]

theorem rno_any (b : Nat) (v : Value) (e : Int) (w : World) (hb : w.cell? ⟨b,0,none⟩ = some v) (hbl : b < w.heap.size) :
  Calls Tryz.prog 43 #[I e,.pointer (some ⟨b,0,none⟩)] w fun x w'=>x = .returned (.tuple #[v,.agg #[I e,I 0]]) ∧ Ext w w':=by
 go_enter Tryz.func43,Tryz.ntmps43
 go_wp2
 go_returns
 exact ⟨rfl,(Ext.refl w).alloc _⟩

/-- Names without one: wherever it is, the last one is. -/
def dropR (l : List (Int × Int)) (a : Int) : List (Int × Int):=(l.map fun p=>if p.1 = a then l.getD (l.length - 1) (0,0) else p).take (l.length - 1)
/-- What the document's Do makes of names that need not be unlike. -/
def doR (l : List (Int × Int)) (c : Cl) : List (Int × Int) × Rp :=
 if c.kind = 5 then (l,⟨0,l.length⟩)
 else if c.kind = 1 then
  if at1 l c.name < l.length then (setR l c.name c.n,⟨0,num l (at1 l c.name)⟩)
  else if 5 ≤ l.length then (l,⟨9,0⟩) else (l ++ [(c.name,c.n)],⟨0,0⟩)
 else if ¬ at1 l c.name < l.length then (l,⟨6,0⟩)
 else if c.kind = 2 then (l,⟨0,num l (at1 l c.name)⟩)
 else if c.kind = 3 then (dropR l c.name,⟨0,num l (at1 l c.name)⟩)
 else if c.kind = 4 then
  if ¬ (-1073741824 ≤ num l (at1 l c.name) + c.n ∧ num l (at1 l c.name) + c.n ≤ 1073741824) then (l,⟨3,0⟩)
  else (setR l c.name (num l (at1 l c.name) + c.n),⟨0,num l (at1 l c.name) + c.n⟩)
 else if ¬ at1 l c.other < l.length then (l,⟨6,0⟩)
 else (setR (setR l c.name (num l (at1 l c.other))) c.other (num l (at1 l c.name)),⟨0,num l (at1 l c.other)⟩)
theorem doR_count (l : List (Int × Int)) (a o n : Int) : doR l ⟨5,a,o,n⟩ = (l,⟨0,l.length⟩):=rfl
theorem doR_put (l : List (Int × Int)) (a o n : Int) : doR l ⟨1,a,o,n⟩ = if at1 l a < l.length then (setR l a n,⟨0,num l (at1 l a)⟩) else if 5 ≤ l.length then (l,⟨9,0⟩) else (l ++ [(a,n)],⟨0,0⟩):=rfl
theorem doR_get (l : List (Int × Int)) (a o n : Int) : doR l ⟨2,a,o,n⟩ = if ¬ at1 l a < l.length then (l,⟨6,0⟩) else (l,⟨0,num l (at1 l a)⟩):=rfl
theorem doR_drop (l : List (Int × Int)) (a o n : Int) : doR l ⟨3,a,o,n⟩ = if ¬ at1 l a < l.length then (l,⟨6,0⟩) else (dropR l a,⟨0,num l (at1 l a)⟩):=rfl
theorem doR_add (l : List (Int × Int)) (a o n : Int) : doR l ⟨4,a,o,n⟩ = if ¬ at1 l a < l.length then (l,⟨6,0⟩) else if ¬ (-1073741824 ≤ num l (at1 l a) + n ∧ num l (at1 l a) + n ≤ 1073741824) then (l,⟨3,0⟩) else (setR l a (num l (at1 l a) + n),⟨0,num l (at1 l a) + n⟩):=rfl
theorem doR_swap' (l : List (Int × Int)) (a b n : Int) : doR l ⟨6,a,b,n⟩ = if ¬ at1 l a < l.length then (l,⟨6,0⟩) else if ¬ at1 l b < l.length then (l,⟨6,0⟩)
 else (setR (setR l a (num l (at1 l b))) b (num l (at1 l a)),⟨0,num l (at1 l b)⟩):=rfl
/-- What is told does not ask whether names are unlike. -/
theorem doR_snd (l : List (Int × Int)) (c : Cl) : (doR l c).2 = (doCl l c).2:=by
 unfold doR doCl
 repeat' split
 all_goals rfl
theorem getD_setR (l : List (Int × Int)) (name n : Int) (j : Nat) (hj : j < l.length) : (setR l name n).getD j (0,0) = if (l.getD j (0,0)).1 = name then ((l.getD j (0,0)).1,n) else l.getD j (0,0):=by
 simp [setR,List.getD_eq_getElem?_getD,hj]
theorem at1_setR (l : List (Int × Int)) (name n x : Int) : at1 (setR l name n) x = at1 l x:=by
 have hf : ∀ j,j < l.length → ((setR l name n).getD j (0,0)).1 = (l.getD j (0,0)).1:=fun j hj=>by
  rw [getD_setR _ _ _ _ hj]; split <;> rfl
 by_cases h : at1 l x < l.length
 ·refine at1_of (by rw [length_setR]; exact h) (by rw [hf _ h]; exact at1_hit h) (fun j hj=>by rw [hf _ (by omega)]; exact at1_before hj)
 ·have e : at1 l x = l.length:=by have:=at1_le l x; omega
  rw [e,← length_setR l name n]
  refine at1_none fun j hj=>?_
  rw [length_setR] at hj
  rw [hf _ hj]
  exact at1_before (by omega)
theorem length_dropR (l : List (Int × Int)) (a : Int) : (dropR l a).length = l.length - 1:=by simp [dropR]
theorem getD_dropR (l : List (Int × Int)) (a : Int) (j : Nat) (hj : j < l.length - 1) : (dropR l a).getD j (0,0) = if (l.getD j (0,0)).1 = a then l.getD (l.length - 1) (0,0) else l.getD j (0,0):=by
 have h2 : j < l.length:=by omega
 unfold dropR
 rw [List.getD_eq_getElem?_getD,List.getElem?_take,if_pos hj,List.getElem?_map,List.getElem?_eq_getElem h2]
 simp [List.getD_eq_getElem?_getD,h2]
/-- Where names are unlike it is what the call does. -/
theorem doR_eq {l : List (Int × Int)} (h : Okn l) (c : Cl) : doR l c = doCl l c:=by
 have hs : ∀ a n,at1 l a < l.length → setR l a n = put1 l (at1 l a) n:=fun a n ha=>setR_put1 h ha n
 have hd : ∀ a,at1 l a < l.length → dropR l a = (l.set (at1 l a) (l.getD (l.length - 1) (0,0))).take (l.length - 1):=fun a ha=>by
  refine ext_getD (by rw [length_dropR,length_dropped]) fun j hj=>?_
  rw [length_dropR] at hj
  rw [getD_dropR _ _ _ hj,getD_dropped _ _ _ ha hj]
  by_cases hn : (l.getD j (0,0)).1 = a
  ·rw [if_pos hn,if_pos (h.uni ha (by omega) (by rw [at1_hit ha,hn]))]
  ·rw [if_neg hn,if_neg (fun e=>hn (by rw [← e]; exact at1_hit ha))]
 unfold doR doCl
 by_cases k5 : c.kind = 5
 ·rw [if_pos k5,if_pos k5]
 rw [if_neg k5,if_neg k5]
 by_cases ha : at1 l c.name < l.length
 ·rw [if_pos ha,if_pos ha,hs _ _ ha,hd _ ha]
  by_cases hb : at1 l c.other < l.length
  ·have h2 : setR (put1 l (at1 l c.name) (num l (at1 l c.other))) c.other (num l (at1 l c.name)) = put1 (put1 l (at1 l c.name) (num l (at1 l c.other))) (at1 l c.other) (num l (at1 l c.name)):=by
    have hm:=(h.at hb).2.2
    have q:=setR_put1 (okn_put1 h ha hm.1 hm.2) (name:=c.other) (by rw [at1_put1 _ _ _ ha,length_put1]; exact hb) (num l (at1 l c.name))
    rwa [at1_put1 _ _ _ ha] at q
   rw [hs _ _ ha,hs _ _ ha,h2]
  ·rw [if_pos hb,if_pos hb,hs _ _ ha]
 ·rw [if_neg ha,if_neg ha,if_pos ha,if_pos ha]

/-- What the document's Do hands back; it lies in memory of its own where the names did. -/
def DoesW (w : World) (v : Value) (l : List (Int × Int)) (c : Cl) (e : Ending) (w' : World) : Prop :=
 ∃ u,e = .returned (.tuple #[u,(doR l c).2.val]) ∧ Writes w' u (doR l c).1 ∧ ∀ base,base ≤ w.heap.size → Has base w v l → Has base w' u (doR l c).1
theorem doesW_same {w w' : World} {l : List (Int × Int)} {c : Cl} {v : Value} {r : Rp} (h : doR l c = (l,r)) (hv : Writes w v l) (he : Ext w w') : DoesW w v l c (.returned (.tuple #[v,r.val])) w':=by
 refine ⟨v,?_,?_,fun base _ hh=>?_⟩ <;> rw [h]
 ·exact hv.ext he
 ·exact hh.ext he
theorem doesW_new {w w' : World} {l l' : List (Int × Int)} {c : Cl} {u v : Value} {r : Rp} {b : Nat} (h : doR l c = (l',r)) (hu : Has b w' u l') (hb : w.heap.size ≤ b) : DoesW w v l c (.returned (.tuple #[u,r.val])) w':=by
 refine ⟨u,?_,?_,fun base hle _=>?_⟩ <;> rw [h]
 ·exact hu.writes
 ·exact hu.low (Nat.le_trans hle hb)

/-- What lies in memory when the document's Do begins. -/
theorem rbox {w : World} {x : Value} {k a o n : Int} (wx : World) (hx : Ext (((w.alloc (.cells #[x] 27)).alloc (.cells #[I k,I a,I o,I n] 34)).alloc (.cells #[I 0,I 0] 39)) wx) :
   wx.cell? ⟨w.heap.size,0,none⟩ = some x ∧ wx.cell? ⟨w.heap.size + 1,0,none⟩ = some (I k) ∧ wx.cell? ⟨w.heap.size + 1,1,none⟩ = some (I a) ∧ wx.cell? ⟨w.heap.size + 1,2,none⟩ = some (I o) ∧ wx.cell? ⟨w.heap.size + 1,3,none⟩ = some (I n) ∧
   wx.cell? ⟨w.heap.size + 1 + 1,0,none⟩ = some (I 0) ∧ wx.cell? ⟨w.heap.size + 1 + 1,1,none⟩ = some (I 0) ∧ wx.heap[w.heap.size + 1 + 1]? = some (.cells #[I 0,I 0] 39) ∧ Ext w wx:=by
 have hb : (((w.alloc (.cells #[x] 27)).alloc (.cells #[I k,I a,I o,I n] 34)).alloc (.cells #[I 0,I 0] 39)).heap[w.heap.size + 1 + 1]? = some (.cells #[I 0,I 0] 39):=by
  have:=heap_alloc_new ((w.alloc (.cells #[x] 27)).alloc (.cells #[I k,I a,I o,I n] 34)) (.cells #[I 0,I 0] 39)
  simpa using this
 have p0 : (((w.alloc (.cells #[x] 27)).alloc (.cells #[I k,I a,I o,I n] 34)).alloc (.cells #[I 0,I 0] 39)).heap[w.heap.size]? = some (.cells #[x] 27):=by
  rw [heap_alloc_old _ _ (by simp; omega),heap_alloc_old _ _ (by simp)]
  exact heap_alloc_new _ _
 have p1 : (((w.alloc (.cells #[x] 27)).alloc (.cells #[I k,I a,I o,I n] 34)).alloc (.cells #[I 0,I 0] 39)).heap[w.heap.size + 1]? = some (.cells #[I k,I a,I o,I n] 34):=by
  rw [heap_alloc_old _ _ (by simp)]
  have:=heap_alloc_new (w.alloc (.cells #[x] 27)) (.cells #[I k,I a,I o,I n] 34)
  simpa using this
 refine ⟨hx.cell (cell_block p0 rfl),hx.cell (cell_block p1 rfl),hx.cell (cell_block p1 rfl),hx.cell (cell_block p1 rfl),hx.cell (cell_block p1 rfl),hx.cell (cell_block hb rfl),hx.cell (cell_block hb rfl),?_,((((Ext.refl w).alloc _).alloc _).alloc _).trans hx⟩
 rw [hx.block _ (by simp)]
 exact hb

set_option maxHeartbeats 2000000 in
theorem wDo_none (v : Value) (l : List (Int × Int)) (k a o n : Int) (w : World) (hv : Writes w v l) (hl : Okw l) (hk : k = 2 ∨ k = 3 ∨ k = 4 ∨ k = 6) (ha : ¬ at1 l a < l.length) :
  Calls Tryz.prog 20 #[v,.agg #[I k,I a,I o,I n]] w fun e w'=>DoesW w v l ⟨k,a,o,n⟩ e w' ∧ Ext w w':=by
 have hmf:=func_mk
 have hl5:=hl.len
 obtain ⟨ao,cap,rfl,g1,g2,g3⟩:=hv.form
 unfold maxLen at g2
 have H3 : Hid _:=g3
 clear g3
 go_enter Tryz.func20,Tryz.ntmps20
 go_wp2_with fail
 refine Calls.exts (rget_any _ l a _ (hv.ext ((((Ext.refl w).alloc _).alloc _).alloc _))) (fun w1 e1=>?_)
 obtain ⟨s0,q0,q1,q2,q3,x0,x1,hbx,hw1⟩:=rbox w1 e1
 obtain ⟨_,_,f0,f1⟩:=box_of hbx (Ext.refl w1)
 have hv1:=hv.ext hw1
 have hbs : w.heap.size + 1 + 1 < w1.heap.size:=(Array.getElem?_eq_some_iff.1 hbx).1
 have hz:=isR_none ha
 have hz2:=getR_none ha
 rw [hz,hz2]
 clear hz hz2
 rcases hk with rfl | rfl | rfl | rfl
 ·go_wp2_with fail
  refine Calls.exts (rno_any _ _ _ _ s0 (cell_lt s0)) (fun w2 e2=>?_)
  obtain ⟨x0,x1,f0,f1⟩:=box_of hbx e2
  have m2:=hw1.trans e2
  go_wp2
  try simp only [Exit.inBlock,Exit.then]
  refine bodyPost_ret (by simp [results,Tryz.results20,go_sem,x0,x1]; rfl) rfl ?_
  exact ⟨doesW_same (r:=⟨6,0⟩) (by rw [doR_get,if_pos ha]) hv ((m2.setCell (by simp only []; omega) _).setCell (by simp only []; omega) _),(m2.setCell (by simp only []; omega) _).setCell (by simp only []; omega) _⟩
 ·go_wp2_with fail
  refine Calls.exts (rno_any _ _ _ _ s0 (cell_lt s0)) (fun w2 e2=>?_)
  obtain ⟨x0,x1,f0,f1⟩:=box_of hbx e2
  have m2:=hw1.trans e2
  go_wp2
  try simp only [Exit.inBlock,Exit.then]
  refine bodyPost_ret (by simp [results,Tryz.results20,go_sem,x0,x1]; rfl) rfl ?_
  exact ⟨doesW_same (r:=⟨6,0⟩) (by rw [doR_drop,if_pos ha]) hv ((m2.setCell (by simp only []; omega) _).setCell (by simp only []; omega) _),(m2.setCell (by simp only []; omega) _).setCell (by simp only []; omega) _⟩
 ·go_wp2_with fail
  refine Calls.exts (rno_any _ _ _ _ s0 (cell_lt s0)) (fun w2 e2=>?_)
  obtain ⟨x0,x1,f0,f1⟩:=box_of hbx e2
  have m2:=hw1.trans e2
  go_wp2
  try simp only [Exit.inBlock,Exit.then]
  refine bodyPost_ret (by simp [results,Tryz.results20,go_sem,x0,x1]; rfl) rfl ?_
  exact ⟨doesW_same (r:=⟨6,0⟩) (by rw [doR_add,if_pos ha]) hv ((m2.setCell (by simp only []; omega) _).setCell (by simp only []; omega) _),(m2.setCell (by simp only []; omega) _).setCell (by simp only []; omega) _⟩
 ·go_wp2_with fail
  refine Calls.exts (rno_any _ _ _ _ s0 (cell_lt s0)) (fun w2 e2=>?_)
  obtain ⟨x0,x1,f0,f1⟩:=box_of hbx e2
  have m2:=hw1.trans e2
  go_wp2
  try simp only [Exit.inBlock,Exit.then]
  refine bodyPost_ret (by simp [results,Tryz.results20,go_sem,x0,x1]; rfl) rfl ?_
  exact ⟨doesW_same (r:=⟨6,0⟩) (by rw [doR_swap',if_pos ha]) hv ((m2.setCell (by simp only []; omega) _).setCell (by simp only []; omega) _),(m2.setCell (by simp only []; omega) _).setCell (by simp only []; omega) _⟩

end Go.Proofs.YtdmipnnfooleladGreat

namespace Go.Proofs.YtdmipnnfooleladGreat
open Go.RowKit Go.Mk
set_option maxRecDepth 100000

set_option maxHeartbeats 2000000 in
theorem wDo_count (v : Value) (l : List (Int × Int)) (a o n : Int) (w : World) (hv : Writes w v l) (hl : Okw l) :
  Calls Tryz.prog 20 #[v,.agg #[I 5,I a,I o,I n]] w fun e w'=>DoesW w v l ⟨5,a,o,n⟩ e w' ∧ Ext w w':=by
 have hmf:=func_mk
 have hl5:=hl.len
 obtain ⟨ao,cap,rfl,g1,g2,g3⟩:=hv.form
 unfold maxLen at g2
 have H3 : Hid _:=g3
 clear g3
 go_enter Tryz.func20,Tryz.ntmps20
 go_wp2_with fail
 refine Calls.exts (rget_any _ l a _ (hv.ext ((((Ext.refl w).alloc _).alloc _).alloc _))) (fun w1 e1=>?_)
 obtain ⟨s0,q0,q1,q2,q3,x0,x1,hbx,hw1⟩:=rbox w1 e1
 obtain ⟨_,_,f0,f1⟩:=box_of hbx (Ext.refl w1)
 have hv1:=hv.ext hw1
 have hbs : w.heap.size + 1 + 1 < w1.heap.size:=(Array.getElem?_eq_some_iff.1 hbx).1
 go_wp2_with fail
 go_region
 go_wp2
 try simp only [Exit.inBlock,Exit.then]
 refine bodyPost_ret (by simp [results,Tryz.results20,go_sem,x0,x1]; rfl) rfl ?_
 exact ⟨doesW_same (r:=⟨0,l.length⟩) (by rw [doR_count]) hv ((hw1.setCell (by simp only []; omega) _).setCell (by simp only []; omega) _).drew,((hw1.setCell (by simp only []; omega) _).setCell (by simp only []; omega) _).drew⟩

set_option maxHeartbeats 2000000 in
theorem wDo_put (v : Value) (l : List (Int × Int)) (a o n : Int) (w : World) (hv : Writes w v l) (hl : Okw l) :
  Calls Tryz.prog 20 #[v,.agg #[I 1,I a,I o,I n]] w fun e w'=>DoesW w v l ⟨1,a,o,n⟩ e w' ∧ Ext w w':=by
 have hmf:=func_mk
 have hl5:=hl.len
 obtain ⟨ao,cap,rfl,g1,g2,g3⟩:=hv.form
 unfold maxLen at g2
 have H3 : Hid _:=g3
 clear g3
 go_enter Tryz.func20,Tryz.ntmps20
 go_wp2_with fail
 refine Calls.exts (rget_any _ l a _ (hv.ext ((((Ext.refl w).alloc _).alloc _).alloc _))) (fun w1 e1=>?_)
 obtain ⟨s0,q0,q1,q2,q3,x0,x1,hbx,hw1⟩:=rbox w1 e1
 obtain ⟨_,_,f0,f1⟩:=box_of hbx (Ext.refl w1)
 have hv1:=hv.ext hw1
 have hbs : w.heap.size + 1 + 1 < w1.heap.size:=(Array.getElem?_eq_some_iff.1 hbx).1
 by_cases ha : at1 l a < l.length
 case neg =>
  have hz:=isR_none ha
  have hz2:=getR_none ha
  rw [hz,hz2]
  clear hz hz2
  by_cases h5 : 5 ≤ l.length
  ·have h5' : (5 : Int) ≤ (l.length : Int):=by omega
   go_wp2_with fail
   refine Calls.exts (rno_any _ _ _ _ s0 (cell_lt s0)) (fun w2 e2=>?_)
   obtain ⟨x0,x1,f0,f1⟩:=box_of hbx e2
   have m2:=hw1.trans e2
   go_wp2
   try simp only [Exit.inBlock,Exit.then]
   refine bodyPost_ret (by simp [results,Tryz.results20,go_sem,x0,x1]; rfl) rfl ?_
   exact ⟨doesW_same (r:=⟨9,0⟩) (by rw [doR_put,if_neg ha,if_pos h5]) hv ((m2.setCell (by simp only []; omega) _).setCell (by simp only []; omega) _),(m2.setCell (by simp only []; omega) _).setCell (by simp only []; omega) _⟩
  ·have h5' : (l.length : Int) < 5:=by omega
   go_wp2_with fail
   refine (rset_any _ l a n _ hv1 (by omega)).mono ?_
   rintro e w2 ⟨r,rfl,e2,hr2⟩
   rw [setX_last ha] at hr2
   obtain ⟨x0,x1,f0,f1⟩:=box_of hbx e2
   have m2:=hw1.trans e2
   go_wp2
   try simp only [Exit.inBlock,Exit.then]
   refine bodyPost_ret (by simp [results,Tryz.results20,go_sem,x0,x1]; rfl) rfl ?_
   exact ⟨doesW_new (r:=⟨0,0⟩) (by rw [doR_put,if_neg ha,if_neg h5]) ((hr2.set hbs _ _).set hbs _ _) hw1.size,(m2.setCell (by simp only []; omega) _).setCell (by simp only []; omega) _⟩
 have hz:=isR_hit ha
 have hz2:=getR_hit ha
 rw [hz,hz2]
 clear hz hz2
 go_wp2_with fail
 refine (rset_any _ l a n _ hv1 (by omega)).mono ?_
 rintro e w2 ⟨r,rfl,e2,hr2⟩
 rw [setX_hit ha] at hr2
 obtain ⟨x0,x1,f0,f1⟩:=box_of hbx e2
 have m2:=hw1.trans e2
 go_wp2
 try simp only [Exit.inBlock,Exit.then]
 refine bodyPost_ret (by simp [results,Tryz.results20,go_sem,x0,x1]; rfl) rfl ?_
 exact ⟨doesW_new (r:=⟨0,num l (at1 l a)⟩) (by rw [doR_put,if_pos ha]) ((hr2.set hbs _ _).set hbs _ _) hw1.size,(m2.setCell (by simp only []; omega) _).setCell (by simp only []; omega) _⟩

set_option maxHeartbeats 2000000 in
theorem wDo_get (v : Value) (l : List (Int × Int)) (a o n : Int) (w : World) (hv : Writes w v l) (hl : Okw l) (ha : at1 l a < l.length) :
  Calls Tryz.prog 20 #[v,.agg #[I 2,I a,I o,I n]] w fun e w'=>DoesW w v l ⟨2,a,o,n⟩ e w' ∧ Ext w w':=by
 have hmf:=func_mk
 have hl5:=hl.len
 obtain ⟨ao,cap,rfl,g1,g2,g3⟩:=hv.form
 unfold maxLen at g2
 have H3 : Hid _:=g3
 clear g3
 go_enter Tryz.func20,Tryz.ntmps20
 go_wp2_with fail
 refine Calls.exts (rget_any _ l a _ (hv.ext ((((Ext.refl w).alloc _).alloc _).alloc _))) (fun w1 e1=>?_)
 obtain ⟨s0,q0,q1,q2,q3,x0,x1,hbx,hw1⟩:=rbox w1 e1
 obtain ⟨_,_,f0,f1⟩:=box_of hbx (Ext.refl w1)
 have hv1:=hv.ext hw1
 have hbs : w.heap.size + 1 + 1 < w1.heap.size:=(Array.getElem?_eq_some_iff.1 hbx).1
 have hz:=isR_hit ha
 have hz2:=getR_hit ha
 rw [hz,hz2]
 clear hz hz2
 go_wp2
 try simp only [Exit.inBlock,Exit.then]
 refine bodyPost_ret (by simp [results,Tryz.results20,go_sem,x0,x1]; rfl) rfl ?_
 exact ⟨doesW_same (r:=⟨0,num l (at1 l a)⟩) (by rw [doR_get,if_neg (by simpa using ha)]) hv ((hw1.setCell (by simp only []; omega) _).setCell (by simp only []; omega) _),(hw1.setCell (by simp only []; omega) _).setCell (by simp only []; omega) _⟩

end Go.Proofs.YtdmipnnfooleladGreat

namespace Go.Proofs.YtdmipnnfooleladGreat
open Go.RowKit Go.Mk
set_option maxRecDepth 100000

theorem dropR_take (l : List (Int × Int)) (a : Int) {k : Nat} (hk : k < l.length - 1) :
  (dropR l a).take (k + 1) = (dropR l a).take k ++ [if (l.getD k (0,0)).1 = a then l.getD (l.length - 1) (0,0) else l.getD k (0,0)]:=by
 have e : (dropR l a)[k]? = some ((dropR l a).getD k (0,0)):=by
  have : k < (dropR l a).length:=by rw [length_dropR]; exact hk
  rw [List.getD_eq_getElem?_getD,List.getElem?_eq_getElem this]
  rfl
 rw [List.take_add_one,e,← getD_dropR _ _ _ hk]
 rfl

set_option maxHeartbeats 2000000 in
theorem wDo_drop (v : Value) (l : List (Int × Int)) (a o n : Int) (w : World) (hv : Writes w v l) (hl : Okw l) (ha : at1 l a < l.length) :
  Calls Tryz.prog 20 #[v,.agg #[I 3,I a,I o,I n]] w fun e w'=>DoesW w v l ⟨3,a,o,n⟩ e w' ∧ Ext w w':=by
 obtain ⟨i0,hi,hz0,hz1,hz2⟩:=info_parts Tryz.infoWrite2
 have hmf:=func_mk
 have hl5:=hl.len
 obtain ⟨ao,cap,rfl,g1,g2,g3⟩:=hv.form
 unfold maxLen at g2
 have H3 : Hid _:=g3
 clear g3
 go_enter Tryz.func20,Tryz.ntmps20
 go_wp2_with fail
 refine Calls.exts (rget_any _ l a _ (hv.ext ((((Ext.refl w).alloc _).alloc _).alloc _))) (fun w1 e1=>?_)
 obtain ⟨s0,q0,q1,q2,q3,x0,x1,hbx,hw1⟩:=rbox w1 e1
 obtain ⟨_,_,f0,f1⟩:=box_of hbx (Ext.refl w1)
 have hv1:=hv.ext hw1
 have hbs : w.heap.size + 1 + 1 < w1.heap.size:=(Array.getElem?_eq_some_iff.1 hbx).1
 have hy:=isR_hit ha
 have hy2:=getR_hit ha
 rw [hy,hy2]
 clear hy hy2
 generalize hM : num l (at1 l a) = m0 at *
 have HD : Hid (doR l ⟨3,a,o,n⟩ = (dropR l a,⟨0,m0⟩)):=by
  unfold Hid
  rw [doR_drop,if_neg (by simpa using ha),hM]
 clear hM
 have hv1f:=hv1.form
 obtain ⟨ao',cap',he',_,_,g3⟩:=hv1f
 simp only [Value.slice.injEq,true_and] at he'
 obtain ⟨rfl,rfl⟩:=he'
 obtain ⟨b,off,rfl,_⟩:=g3 0 (by omega)
 have HC : Hid (∀ j,j < l.length → w1.cell? ⟨b,off + j * 2,none⟩ = some (I (l.getD j (0,0)).1) ∧ w1.cell? ⟨b,off + j * 2 + 1,none⟩ = some (I (l.getD j (0,0)).2)):=fun j hj=>by
  obtain ⟨b',off',e',r1,r2⟩:=g3 j hj
  simp only [Option.some.injEq,Addr.mk.injEq,and_true] at e'
  obtain ⟨rfl,rfl⟩:=e'
  exact ⟨r1,r2⟩
 clear g3 H3
 have HX : Hid (∀ k,k < l.length - 1 → (dropR l a).take (k + 1) = (dropR l a).take k ++ [if (l.getD k (0,0)).1 = a then l.getD (l.length - 1) (0,0) else l.getD k (0,0)]):=fun k hk=>dropR_take l a hk
 have HLD : Hid ((dropR l a).length = l.length - 1):=length_dropR l a
 go_wp2_with fail
 go_loopw [9,78] (fun out i wr=>∃ k : Nat,k ≤ l.length ∧ i = I k ∧ wr.ownsRow w1.heap.size 79 2 out (min k (l.length - 1)) (cells2 ((dropR l a).take k)) ∧ Ext w1 wr) (fun _ i _=>l.length - (intOf i).toNat)
 case atStart=>exact ⟨0,by omega,rfl,by rw [Nat.zero_min]; exact World.ownsRow_nil _ _ _ _,Ext.refl w1⟩
 case round =>
  obtain ⟨k,hk,rfl,ho,he⟩:=hrel
  by_cases hlt : k < l.length
  ·obtain ⟨c1,c2⟩:=HC.out k hlt
   obtain ⟨c3,c4⟩:=HC.out (l.length - 1) (by omega)
   replace c1:=he.cell c1
   replace c2:=he.cell c2
   have t0:=he.cell s0
   have t1:=he.cell q1
   have u0:=fun o=>((Ext.refl wr).alloc o).cell t0
   have u1:=fun o=>((Ext.refl wr).alloc o).cell t1
   have u3:=fun o=>((Ext.refl wr).alloc o).cell (he.cell c3)
   have u4:=fun o=>((Ext.refl wr).alloc o).cell (he.cell c4)
   clear c3 c4 t0 t1
   have HXk:=HX.out k
   have HT : Hid (k < l.length - 1 → (dropR l a).take (k + 1) = (dropR l a).take k ++ [if (l.getD k (0,0)).1 = a then l.getD (l.length - 1) (0,0) else l.getD k (0,0)]):=HXk
   clear HXk
   generalize hL : l.length - 1 = L at *
   have hLi : (l.length : Int) - 1 = (L : Int):=by omega
   have hLt : (L : Int) < (l.length : Int):=by omega
   generalize l.getD L (0,0) = q at *
   generalize l.getD k (0,0) = p at *
   obtain ⟨at_,m⟩:=p
   obtain ⟨b_,y⟩:=q
   simp only [] at c1 c2 u3 u4 HT
   by_cases hn : at_ = a
   ·have hb : (at_ == a) = true:=by simp [hn]
    have HN : Hid (at_ = a):=hn
    clear hn
    by_cases hkL : k < L
    ·have hkL' : (k : Int) < (L : Int):=by omega
     rw [show min k L = k by omega] at ho
     go_wp2_with (at_builtin; refine stop_at ?_)
     unfold Hid
     refine wpList_append_row _ rfl (.tmp 99) (.tmp 101) 27 rfl w1.heap.size 79 i0 (.agg #[.int .i64 0,.int .i64 0]) 2 16 Tryz.underlying27 hi hz0 hz1 hz2 rfl (by decide) u9 k (cells2 ((dropR l a).take k)) rfl ((ho.alloc _).alloc _) _ rfl 1 [I b_,I y] (writes_lit1 _ _ [(b_,y)] _ 1 rfl rfl (by decide)) (cells2_one [(b_,y)]) (by omega) (by decide) (by have:=he.size; simp; omega) ?_
     intro o' w3 ho3 hg3
     have he3 : Ext w1 w3:=((he.alloc _).alloc _).grown hg3 (fun j hj=>(ho.lt j hj).1)
     clear hg3
     go_wp2
     go_roundw
     case rel =>
      refine ⟨k + 1,by omega,by go_num,?_,he3⟩
      rw [HT.out hkL,if_pos HN.out,cells2_append,show min (k + 1) L = k + 1 by omega]
      exact ho3
     case measure=>simp [intOf]; omega
    ·have hkL' : ¬ (k : Int) < (L : Int):=by omega
     go_wp2
     go_roundw
     case rel =>
      refine ⟨k + 1,by omega,by go_num,?_,he.alloc _⟩
      rw [show min (k + 1) L = min k L by omega,List.take_of_length_le (by rw [HLD.out]; omega)]
      rw [List.take_of_length_le (by rw [HLD.out]; omega)] at ho
      exact ho.alloc _
     case measure=>simp [intOf]; omega
   ·have hb : (at_ == a) = false:=by simpa using hn
    have HN : Hid (¬ at_ = a):=hn
    clear hn
    by_cases hkL : k < L
    ·have hkL' : (k : Int) < (L : Int):=by omega
     rw [show min k L = k by omega] at ho
     go_wp2_with (at_builtin; refine stop_at ?_)
     unfold Hid
     refine wpList_append_row _ rfl (.tmp 99) (.tmp 101) 27 rfl w1.heap.size 79 i0 (.agg #[.int .i64 0,.int .i64 0]) 2 16 Tryz.underlying27 hi hz0 hz1 hz2 rfl (by decide) u9 k (cells2 ((dropR l a).take k)) rfl ((ho.alloc _).alloc _) _ rfl 1 [I at_,I m] (writes_lit1 _ _ [(at_,m)] _ 1 rfl rfl (by decide)) (cells2_one [(at_,m)]) (by omega) (by decide) (by have:=he.size; simp; omega) ?_
     intro o' w3 ho3 hg3
     have he3 : Ext w1 w3:=((he.alloc _).alloc _).grown hg3 (fun j hj=>(ho.lt j hj).1)
     clear hg3
     go_wp2
     go_roundw
     case rel =>
      refine ⟨k + 1,by omega,by go_num,?_,he3⟩
      rw [HT.out hkL,if_neg HN.out,cells2_append,show min (k + 1) L = k + 1 by omega]
      exact ho3
     case measure=>simp [intOf]; omega
    ·have hkL' : ¬ (k : Int) < (L : Int):=by omega
     go_wp2
     go_roundw
     case rel =>
      refine ⟨k + 1,by omega,by go_num,?_,he.alloc _⟩
      rw [show min (k + 1) L = min k L by omega,List.take_of_length_le (by rw [HLD.out]; omega)]
      rw [List.take_of_length_le (by rw [HLD.out]; omega)] at ho
      exact ho.alloc _
     case measure=>simp [intOf]; omega
  ·rw [List.take_of_length_le (by rw [HLD.out]; omega)] at ho
   obtain ⟨x0,x1,f0,f1⟩:=box_of hbx he
   have m3:=hw1.trans he
   have hh : Has w1.heap.size wr u9 (dropR l a):=⟨_,_,_,ho,fun w2 h2=>writes_of_owns h2⟩
   go_wp2
   try simp only [Exit.inBlock,Exit.then]
   refine bodyPost_ret (by simp [results,Tryz.results20,go_sem,x0,x1]; rfl) rfl ?_
   exact ⟨doesW_new (r:=⟨0,m0⟩) HD.out ((hh.set hbs _ _).set hbs _ _) hw1.size,(m3.setCell (by simp only []; omega) _).setCell (by simp only []; omega) _⟩

end Go.Proofs.YtdmipnnfooleladGreat

namespace Go.Proofs.YtdmipnnfooleladGreat
open Go.RowKit Go.Mk
set_option maxRecDepth 100000

set_option maxHeartbeats 2000000 in
theorem wDo_add (v : Value) (l : List (Int × Int)) (a o n : Int) (w : World) (hv : Writes w v l) (hl : Okw l) (ha : at1 l a < l.length) (hn : -1073741824 ≤ n ∧ n ≤ 1073741824) :
  Calls Tryz.prog 20 #[v,.agg #[I 4,I a,I o,I n]] w fun e w'=>DoesW w v l ⟨4,a,o,n⟩ e w' ∧ Ext w w':=by
 have hmf:=func_mk
 have hl5:=hl.len
 obtain ⟨ao,cap,rfl,g1,g2,g3⟩:=hv.form
 unfold maxLen at g2
 have H3 : Hid _:=g3
 clear g3
 go_enter Tryz.func20,Tryz.ntmps20
 go_wp2_with fail
 refine Calls.exts (rget_any _ l a _ (hv.ext ((((Ext.refl w).alloc _).alloc _).alloc _))) (fun w1 e1=>?_)
 obtain ⟨s0,q0,q1,q2,q3,x0,x1,hbx,hw1⟩:=rbox w1 e1
 obtain ⟨_,_,f0,f1⟩:=box_of hbx (Ext.refl w1)
 have hv1:=hv.ext hw1
 have hbs : w.heap.size + 1 + 1 < w1.heap.size:=(Array.getElem?_eq_some_iff.1 hbx).1
 have hz:=isR_hit ha
 have hz2:=getR_hit ha
 rw [hz,hz2]
 clear hz hz2
 have hm:=(hl.at ha).2.2
 have hm1 : -1073741824 ≤ num l (at1 l a):=hm.1
 have hm2 : num l (at1 l a) ≤ 1073741824:=hm.2
 clear hm
 obtain ⟨n1,n2⟩:=hn
 generalize hM : num l (at1 l a) = m at *
 have HM : Hid (num l (at1 l a) = m):=hM
 clear hM
 by_cases hs : -1073741824 ≤ m + n ∧ m + n ≤ 1073741824
 case neg =>
  have hs2 : m + n < -1073741824 ∨ 1073741824 < m + n:=by omega
  have HNS : Hid (¬ (-1073741824 ≤ m + n ∧ m + n ≤ 1073741824)):=hs
  clear hs
  rcases hs2 with hs2 | hs2
  ·go_wp2_with fail
   refine Calls.exts (rno_any _ _ _ _ s0 (cell_lt s0)) (fun w2 e2=>?_)
   obtain ⟨x0,x1,f0,f1⟩:=box_of hbx e2
   have m2:=hw1.trans e2
   go_wp2
   try simp only [Exit.inBlock,Exit.then]
   refine bodyPost_ret (by simp [results,Tryz.results20,go_sem,x0,x1]; rfl) rfl ?_
   exact ⟨doesW_same (r:=⟨3,0⟩) (by rw [doR_add,if_neg (by simpa using ha),HM.out,if_pos HNS.out]) hv ((m2.setCell (by simp only []; omega) _).setCell (by simp only []; omega) _),(m2.setCell (by simp only []; omega) _).setCell (by simp only []; omega) _⟩
  ·go_wp2_with fail
   refine Calls.exts (rno_any _ _ _ _ s0 (cell_lt s0)) (fun w2 e2=>?_)
   obtain ⟨x0,x1,f0,f1⟩:=box_of hbx e2
   have m2:=hw1.trans e2
   go_wp2
   try simp only [Exit.inBlock,Exit.then]
   refine bodyPost_ret (by simp [results,Tryz.results20,go_sem,x0,x1]; rfl) rfl ?_
   exact ⟨doesW_same (r:=⟨3,0⟩) (by rw [doR_add,if_neg (by simpa using ha),HM.out,if_pos HNS.out]) hv ((m2.setCell (by simp only []; omega) _).setCell (by simp only []; omega) _),(m2.setCell (by simp only []; omega) _).setCell (by simp only []; omega) _⟩
 obtain ⟨s1,s2⟩:=hs
 have hsum : IntKind.i64.wrap (m + n) = m + n:=by rw [IntKind.wrap_i64]; omega
 have HSET : Hid (setX l a (m + n) = setR l a (m + n)):=setX_hit ha
 go_wp2_with fail
 refine wp_region_mono_tail 14 [none,none,none,none,none,none,none,some (.inr fun r w'=>Has w1.heap.size w' r (setR l a (m + n))),none,none,none,none,none,none] (by kernel_rfl) (by kernel_rfl) ?_ ?_
 ·exact ⟨trivial,trivial,trivial,trivial,trivial,trivial,trivial,monoHas _ _,trivial,trivial,trivial,trivial,trivial,trivial,trivial⟩
 refine wpM_q (.slice ao l.length cap) rfl (fun w' hw'=>by have:=hw'.cell s0; go_simp) ?_
 iterate 1 (refine wpM_p (fun K hK=>?_); go_simp; refine hK _ ?_; clear hK K)
 refine wpM_q (I a) rfl (fun w' hw'=>by have:=hw'.cell q1; go_simp) ?_
 iterate 2 (refine wpM_p (fun K hK=>?_); go_simp; refine hK _ ?_; clear hK K)
 refine wpM_q (I n) rfl (fun w' hw'=>by have:=hw'.cell q3; go_simp) ?_
 iterate 1 (refine wpM_p (fun K hK=>?_); go_simp; refine hK _ ?_; clear hK K)
 refine wpM_l _ rfl (fun w' hw' _=>?_) (fun v134=>?_)
 ·have hg : Gives Tryz.prog 44 #[.slice ao l.length cap,I a,I (m + n)] w' (fun r w''=>Has w1.heap.size w'' r (setR l a (m + n))) :=
   Gives.mono (rset_any _ l a (m + n) w' (hv1.ext hw') (by omega)) (fun r w'' _ h=>by rw [HSET.out] at h; exact h.low hw'.size)
  unfold makes
  go_simp
  exact ⟨Ext.refl _,hg⟩
 iterate 2 (refine wpM_p (fun K hK=>?_); go_simp; refine hK _ ?_; clear hK K)
 refine wpM_q (I n) rfl (fun w' hw'=>by have:=hw'.cell q3; go_simp) ?_
 iterate 3 (refine wpM_p (fun K hK=>?_); go_simp; refine hK _ ?_; clear hK K)
 refine wpM_nil ?_
 intro w2 he2 hF
 have hr2 : Has w1.heap.size w2 v134 (setR l a (m + n)):=hF 134
 clear hF
 obtain ⟨x0,x1,f0,f1⟩:=box_of hbx he2
 have m2:=hw1.trans he2
 go_wp2
 try simp only [Exit.inBlock,Exit.then]
 refine bodyPost_ret (by simp [results,Tryz.results20,go_sem,x0,x1]; rfl) rfl ?_
 exact ⟨doesW_new (r:=⟨0,m + n⟩) (by rw [doR_add,if_neg (by simpa using ha),HM.out,if_neg (by simp; omega)]) ((hr2.set hbs _ _).set hbs _ _) hw1.size,(m2.setCell (by simp only []; omega) _).setCell (by simp only []; omega) _⟩

end Go.Proofs.YtdmipnnfooleladGreat

namespace Go.Proofs.YtdmipnnfooleladGreat
open Go.RowKit Go.Mk
set_option maxRecDepth 100000

set_option maxHeartbeats 2000000 in
theorem wDo_swap (v : Value) (l : List (Int × Int)) (a o n : Int) (w : World) (hv : Writes w v l) (hl : Okw l) (ha : at1 l a < l.length) :
  Calls Tryz.prog 20 #[v,.agg #[I 6,I a,I o,I n]] w fun e w'=>DoesW w v l ⟨6,a,o,n⟩ e w' ∧ Ext w w':=by
 have hmf:=func_mk
 have hl5:=hl.len
 obtain ⟨ao,cap,rfl,g1,g2,g3⟩:=hv.form
 unfold maxLen at g2
 have H3 : Hid _:=g3
 clear g3
 go_enter Tryz.func20,Tryz.ntmps20
 go_wp2_with fail
 refine Calls.exts (rget_any _ l a _ (hv.ext ((((Ext.refl w).alloc _).alloc _).alloc _))) (fun w1 e1=>?_)
 obtain ⟨s0,q0,q1,q2,q3,x0,x1,hbx,hw1⟩:=rbox w1 e1
 obtain ⟨_,_,f0,f1⟩:=box_of hbx (Ext.refl w1)
 have hv1:=hv.ext hw1
 have hbs : w.heap.size + 1 + 1 < w1.heap.size:=(Array.getElem?_eq_some_iff.1 hbx).1
 have hz:=isR_hit ha
 have hz2:=getR_hit ha
 rw [hz,hz2]
 clear hz hz2
 go_wp2_with fail
 refine Calls.exts (rget_any _ l o w1 hv1) (fun w2 e2=>?_)
 replace s0:=e2.cell s0
 replace q0:=e2.cell q0
 replace q1:=e2.cell q1
 replace q2:=e2.cell q2
 replace q3:=e2.cell q3
 have hbx2 : w2.heap[w.heap.size + 1 + 1]? = some (.cells #[I 0,I 0] 39):=by rw [e2.block _ hbs]; exact hbx
 have hw2:=hw1.trans e2
 have hv2:=hv1.ext e2
 have hbs2 : w.heap.size + 1 + 1 < w2.heap.size:=Nat.lt_of_lt_of_le hbs e2.size
 clear x0 x1 f0 f1 hv1 hbx hw1 hbs
 by_cases hb : at1 l o < l.length
 case neg =>
  rw [isR_none hb,getR_none hb]
  go_wp2_with fail
  refine Calls.exts (rno_any _ _ _ _ s0 (cell_lt s0)) (fun w3 e3=>?_)
  obtain ⟨x0,x1,f0,f1⟩:=box_of hbx2 e3
  have m3:=hw2.trans e3
  go_wp2
  try simp only [Exit.inBlock,Exit.then]
  refine bodyPost_ret (by simp [results,Tryz.results20,go_sem,x0,x1]; rfl) rfl ?_
  exact ⟨doesW_same (r:=⟨6,0⟩) (by rw [doR_swap',if_neg (by simpa using ha),if_pos hb]) hv ((m3.setCell (by simp only []; omega) _).setCell (by simp only []; omega) _),(m3.setCell (by simp only []; omega) _).setCell (by simp only []; omega) _⟩
 rw [isR_hit hb,getR_hit hb]
 have hm:=(hl.at ha).2.2
 have hm':=(hl.at hb).2.2
 have HS1 : Hid (setX l a (num l (at1 l o)) = setR l a (num l (at1 l o))):=setX_hit ha
 have HS2 : Hid (setX (setR l a (num l (at1 l o))) o (num l (at1 l a)) = setR (setR l a (num l (at1 l o))) o (num l (at1 l a))):=setX_hit (by rw [at1_setR,length_setR]; exact hb)
 have HD : Hid (doR l ⟨6,a,o,n⟩ = (setR (setR l a (num l (at1 l o))) o (num l (at1 l a)),⟨0,num l (at1 l o)⟩)):=by
  unfold Hid
  rw [doR_swap',if_neg (by simpa using ha),if_neg (by simpa using hb)]
 have hlp : (setR l a (num l (at1 l o))).length ≤ 5:=by rw [length_setR]; exact hl5
 clear hm hm'
 generalize setR (setR l a (num l (at1 l o))) o (num l (at1 l a)) = L2 at *
 generalize setR l a (num l (at1 l o)) = L1 at *
 generalize num l (at1 l a) = m at *
 generalize num l (at1 l o) = m' at *
 go_wp2_with fail
 refine wp_region_mono_tail 12 [none,none,none,none,some (.inr fun r w'=>Writes w' r L1),none,none,none,some (.inr fun r w'=>Has w2.heap.size w' r L2),none,none,none] (by kernel_rfl) (by kernel_rfl) ?_ ?_
 ·exact ⟨trivial,trivial,trivial,trivial,monoWrites _,trivial,trivial,trivial,monoHas _ _,trivial,trivial,trivial,trivial⟩
 refine wpM_q (.slice ao l.length cap) rfl (fun w' hw'=>by have:=hw'.cell s0; go_simp) ?_
 iterate 1 (refine wpM_p (fun K hK=>?_); go_simp; refine hK _ ?_; clear hK K)
 refine wpM_q (I a) rfl (fun w' hw'=>by have:=hw'.cell q1; go_simp) ?_
 iterate 1 (refine wpM_p (fun K hK=>?_); go_simp; refine hK _ ?_; clear hK K)
 refine wpM_l _ rfl (fun w' hw' _=>?_) (fun v157=>?_)
 ·have hg : Gives Tryz.prog 44 #[.slice ao l.length cap,I a,I m'] w' (fun r w''=>Writes w'' r L1) :=
   Gives.mono (rset_any _ l a m' w' (hv2.ext hw') (by omega)) (fun r w'' _ h=>by rw [HS1.out] at h; exact h.writes)
  unfold makes
  go_simp
  exact ⟨Ext.refl _,hg⟩
 iterate 1 (refine wpM_p (fun K hK=>?_); go_simp; refine hK _ ?_; clear hK K)
 refine wpM_q (I o) rfl (fun w' hw'=>by have:=hw'.cell q2; go_simp) ?_
 iterate 1 (refine wpM_p (fun K hK=>?_); go_simp; refine hK _ ?_; clear hK K)
 refine wpM_l _ rfl (fun w' hw' hk=>?_) (fun v161=>?_)
 ·have h7 : Writes w' v157 L1:=hk 157 (by decide)
  have hg : Gives Tryz.prog 44 #[v157,I o,I m] w' (fun r w''=>Has w2.heap.size w'' r L2) :=
   Gives.mono (rset_any _ L1 o m w' h7 (by omega)) (fun r w'' _ h=>by rw [HS2.out] at h; exact h.low hw'.size)
  clear hk h7
  unfold makes
  go_simp
  exact ⟨Ext.refl _,hg⟩
 iterate 3 (refine wpM_p (fun K hK=>?_); go_simp; refine hK _ ?_; clear hK K)
 refine wpM_nil ?_
 intro w3 he3 hF
 have hr2 : Has w2.heap.size w3 v161 L2:=hF 161
 clear hF
 obtain ⟨x0,x1,f0,f1⟩:=box_of hbx2 he3
 have m3:=hw2.trans he3
 go_wp2
 try simp only [Exit.inBlock,Exit.then]
 refine bodyPost_ret (by simp [results,Tryz.results20,go_sem,x0,x1]; rfl) rfl ?_
 exact ⟨doesW_new (r:=⟨0,m'⟩) HD.out ((hr2.set hbs2 _ _).set hbs2 _ _) hw2.size,(m3.setCell (by simp only []; omega) _).setCell (by simp only []; omega) _⟩

end Go.Proofs.YtdmipnnfooleladGreat

namespace Go.Proofs.YtdmipnnfooleladGreat
open Go.RowKit Go.Mk
set_option maxRecDepth 100000

theorem wDo_any (v : Value) (l : List (Int × Int)) (k a o n : Int) (w : World) (hv : Writes w v l) (hl : Okw l) (hc : wrongCl ⟨k,a,o,n⟩ = 0) :
  Calls Tryz.prog 20 #[v,.agg #[I k,I a,I o,I n]] w fun e w'=>DoesW w v l ⟨k,a,o,n⟩ e w' ∧ Ext w w':=by
 obtain ⟨hk,hn⟩:=wrongCl_zero hc
 by_cases ha : at1 l a < l.length
 ·rcases hk with rfl | rfl | rfl | rfl | rfl | rfl
  ·exact wDo_put v l a o n w hv hl
  ·exact wDo_get v l a o n w hv hl ha
  ·exact wDo_drop v l a o n w hv hl ha
  ·exact wDo_add v l a o n w hv hl ha (hn (.inr rfl))
  ·exact wDo_count v l a o n w hv hl
  ·exact wDo_swap v l a o n w hv hl ha
 ·rcases hk with rfl | rfl | rfl | rfl | rfl | rfl
  ·exact wDo_put v l a o n w hv hl
  ·exact wDo_none v l 2 a o n w hv hl (by simp) ha
  ·exact wDo_none v l 3 a o n w hv hl (by simp) ha
  ·exact wDo_none v l 4 a o n w hv hl (by simp) ha
  ·exact wDo_count v l a o n w hv hl
  ·exact wDo_none v l 6 a o n w hv hl (by simp) ha

/-- What the document's Do hands back where names are unlike. -/
def DoesR (w : World) (v : Value) (l : List (Int × Int)) (c : Cl) (e : Ending) (w' : World) : Prop :=
 ∃ u,e = .returned (.tuple #[u,(doCl l c).2.val]) ∧ Writes w' u (doCl l c).1 ∧ ∀ base,base ≤ w.heap.size → Has base w v l → Has base w' u (doCl l c).1
theorem rDo_any (v : Value) (l : List (Int × Int)) (k a o n : Int) (w : World) (hv : Writes w v l) (hl : Okn l) (hc : wrongCl ⟨k,a,o,n⟩ = 0) :
  Calls Tryz.prog 20 #[v,.agg #[I k,I a,I o,I n]] w fun e w'=>DoesR w v l ⟨k,a,o,n⟩ e w' ∧ Ext w w' :=
 (wDo_any v l k a o n w hv hl.w hc).mono fun e w' h=>by
  have q:=h
  unfold DoesW at q
  rw [doR_eq hl] at q
  exact q

end Go.Proofs.YtdmipnnfooleladGreat

namespace Go.Proofs.YtdmipnnfooleladGreat
open Go.RowKit Go.Mk
set_option maxRecDepth 100000

theorem right_cells {xs : List Int} (h : wrongOf xs = 0) : xs.length = 11 ∧ 0 ≤ xs.getD 0 0 ∧ xs.getD 0 0 ≤ 5:=by
 have hl:=right_len h
 unfold wrongOf at h
 rw [if_neg (by simp [hl])] at h
 by_cases h0 : 0 ≤ xs.getD 0 0 ∧ xs.getD 0 0 ≤ 5
 ·exact ⟨hl,h0⟩
 ·rw [if_pos h0] at h; cases h

set_option maxHeartbeats 1000000 in
theorem refOfW_has (v : Value) (xs : List Int) (w : World) (hv : Ints w v xs) (hw : xs.length = 11 ∧ 0 ≤ xs.getD 0 0 ∧ xs.getD 0 0 ≤ 5) :
  Calls Tryz.prog 21 #[v] w fun e w'=>∃ r,e = .returned r ∧ Ext w w' ∧ Has w.heap.size w' r (ofCells xs (xs.getD 0 0).toNat):=by
 obtain ⟨hl,x0,x5⟩:=id hw
 obtain ⟨i0,hi,hz0,hz1,hz2⟩:=info_parts Tryz.infoWrite2
 have H3 : Hid (∀ k,k < 11 → ∃ ao cap,v = .slice ao 11 cap ∧ 11 ≤ cap ∧ cap ≤ maxLen ∧ ∃ b off,ao = some ⟨b,off,none⟩ ∧ w.cell? ⟨b,off + k,none⟩ = some (I (xs.getD k 0))):=fun k hk=>by
  obtain ⟨ao,cap,h1,h2,h3,h4⟩:=hv.form
  rw [hl] at h1 h2 h4
  exact ⟨ao,cap,h1,h2,h3,h4 k hk⟩
 obtain ⟨ao,cap,rfl,hcap,hm,b,off,rfl,hc0⟩:=H3.out 0 (by omega)
 have HC : Hid (∀ k,k < 11 → w.cell? ⟨b,off + k,none⟩ = some (I (xs.getD k 0))):=fun k hk=>by
  obtain ⟨ao,cap',h1,_,_,b',off',h2,h3⟩:=H3.out k hk
  rw [h2] at h1
  simp only [Value.slice.injEq,Option.some.injEq,Addr.mk.injEq,and_true] at h1
  obtain ⟨⟨rfl,rfl⟩,_,rfl⟩:=h1
  exact h3
 clear H3
 unfold maxLen at hm
 simp only [Nat.add_zero] at hc0
 generalize hX : xs.getD 0 0 = x at *
 clear hX hw hl hv
 have HC0 : Hid (w.cell? ⟨b,off,none⟩ = some (I x)):=hc0
 clear hc0
 go_enter Tryz.func21,Tryz.ntmps21
 go_wp2_with fail
 go_loopw [3,4] (fun o i wr=>∃ k : Nat,(k : Int) ≤ x ∧ i = I (1 + 2 * k) ∧ wr.ownsRow w.heap.size 79 2 o k (cells2 (ofCells xs k)) ∧ Ext w wr) (fun _ i _=>20 - (intOf i).toNat)
 case atStart=>exact ⟨0,by omega,rfl,World.ownsRow_nil _ _ _ _,Ext.refl w⟩
 case round =>
  obtain ⟨k,hk,rfl,ho,he⟩:=hrel
  have c0:=he.cell HC0.out
  by_cases hlt : (k : Int) < x
  ·have c1:=he.cell (HC.out (1 + 2 * k) (by omega))
   have c2:=he.cell (HC.out (1 + 2 * k + 1) (by omega))
   have HS : Hid (ofCells xs (k + 1) = ofCells xs k ++ [(xs.getD (1 + 2 * k) 0,xs.getD (1 + 2 * k + 1) 0)]):=ofCells_succ xs k
   generalize xs.getD (1 + 2 * k) 0 = p at *
   generalize xs.getD (1 + 2 * k + 1) 0 = q at *
   have a1 : (0 : Int) ≤ 1 + 2 * (k : Int):=by omega
   have a2 : 1 + 2 * (k : Int) < 11:=by omega
   have a3 : (1 + 2 * (k : Int)).toNat = 1 + 2 * k:=by omega
   have a4 : (0 : Int) ≤ 1 + 2 * (k : Int) + 1:=by omega
   have a5 : 1 + 2 * (k : Int) + 1 < 11:=by omega
   have a6 : (1 + 2 * (k : Int) + 1).toNat = 1 + 2 * k + 1:=by omega
   have hwr : IntKind.i64.wrap (1 + 2 * (k : Int) + 1) = 1 + 2 * (k : Int) + 1:=by rw [IntKind.wrap_i64]; omega
   go_wp2_with fail
   refine wp_region_mono_tail 12 [none,none,none,none,none,none,none,none,none,none,none,some (.inr fun v w=>Writes w v [(p,q)])] (by kernel_rfl) (by kernel_rfl) ?_ ?_
   ·exact ⟨trivial,trivial,trivial,trivial,trivial,trivial,trivial,trivial,trivial,trivial,trivial,monoWrites _,trivial⟩
   iterate 4 (refine wpM_p (fun K hK=>?_); go_simp; refine hK _ ?_; clear hK K)
   refine wpM_q (I p) rfl (fun w' hw'=>by have:=hw'.cell c1; go_simp) ?_
   iterate 4 (refine wpM_p (fun K hK=>?_); go_simp; refine hK _ ?_; clear hK K)
   refine wpM_q (I q) rfl (fun w' hw'=>by have:=hw'.cell c2; go_simp) ?_
   iterate 1 (refine wpM_p (fun K hK=>?_); go_simp; refine hK _ ?_; clear hK K)
   refine wpM_l _ rfl (fun w' hw' _=>?_) (fun v25=>?_)
   ·unfold makes
    go_simp
    exact ⟨(Ext.refl _).alloc _,writes_lit _ _ _ 1 rfl rfl (by decide)⟩
   refine wpM_nil ?_
   intro w2 he2 hF
   have h25 : Writes w2 v25 [(p,q)]:=hF 25
   clear hF c1 c2 c0
   refine wpList_append_row _ rfl (.tmp 14) (.tmp 25) 27 rfl w.heap.size 79 i0 _ 2 16 Tryz.underlying27 hi hz0 hz1 hz2 rfl (by decide) u3 k (cells2 (ofCells xs k)) rfl ?_ v25 rfl 1 _ h25 (cells2_one _) (by omega) (by decide) ?_ ?_
   ·exact owns_ext ho he2
   ·exact Nat.le_trans he.size he2.size
   intro o' w3 ho3 hg3
   have he4 : Ext w w3:=(he.trans he2).grown hg3 (fun j hj=>(ho.lt j hj).1)
   clear hg3 he2 h25
   go_wp2
   go_roundw
   case rel =>
    refine ⟨k + 1,by omega,by go_num,?_,he4⟩
    rw [HS.out,cells2_append]
    exact ho3
   case measure=>simp [intOf]; omega
  ·go_wp2
   go_ret
   refine ⟨_,rfl,he,?_⟩
   rw [show x.toNat = k by omega]
   exact ⟨_,_,_,ho,fun _ h=>writes_of_owns h⟩

theorem refOfW_any (v : Value) (xs : List Int) (w : World) (hv : Ints w v xs) (hw : xs.length = 11 ∧ 0 ≤ xs.getD 0 0 ∧ xs.getD 0 0 ≤ 5) :
  Calls Tryz.prog 21 #[v] w fun e w'=>∃ r,e = .returned r ∧ Ext w w' ∧ Writes w' r (ofCells xs (xs.getD 0 0).toNat) :=
 (refOfW_has v xs w hv hw).mono fun _ _ ⟨r,h1,h2,h3⟩=>⟨r,h1,h2,h3.writes⟩
theorem refOf_has (v : Value) (xs : List Int) (w : World) (hv : Ints w v xs) (hw : wrongOf xs = 0) :
  Calls Tryz.prog 21 #[v] w fun e w'=>∃ r,e = .returned r ∧ Ext w w' ∧ Has w.heap.size w' r (ofCells xs (xs.getD 0 0).toNat):=refOfW_has v xs w hv (right_cells hw)
theorem refOf_any (v : Value) (xs : List Int) (w : World) (hv : Ints w v xs) (hw : wrongOf xs = 0) :
  Calls Tryz.prog 21 #[v] w fun e w'=>∃ r,e = .returned r ∧ Ext w w' ∧ Writes w' r (ofCells xs (xs.getD 0 0).toNat):=refOfW_any v xs w hv (right_cells hw)

end Go.Proofs.YtdmipnnfooleladGreat

namespace Go.Proofs.YtdmipnnfooleladGreat
open Go.RowKit Go.Mk
set_option maxRecDepth 100000

/-- What the document's Plan hands back. -/
def PlansR (base : Nat) (l : List (Int × Int)) (c : Cl) (e : Ending) (w : World) : Prop:=∃ u,e = .returned (.tuple #[u,(doCl l c).2.val]) ∧ Has base w u (planCl l c)

set_option maxHeartbeats 2000000 in
theorem rPlan_err (v : Value) (xs : List Int) (k a o n : Int) (w : World) (hv : Ints w v xs) (hx : Weak xs) (hc : wrongCl ⟨k,a,o,n⟩ = 0) (he : (doCl (ofCells xs (xs.getD 0 0).toNat) ⟨k,a,o,n⟩).2.err ≠ 0) :
  Calls Tryz.prog 37 #[v,.agg #[I k,I a,I o,I n]] w fun e w'=>PlansR w.heap.size (ofCells xs (xs.getD 0 0).toNat) ⟨k,a,o,n⟩ e w' ∧ Ext w w':=by
 obtain ⟨_,_,_,hok⟩:=id hx
 have hP : planCl (ofCells xs (xs.getD 0 0).toNat) ⟨k,a,o,n⟩ = []:=if_pos he
 generalize hL : ofCells xs (xs.getD 0 0).toNat = l at *
 have HL : Hid (ofCells xs (xs.getD 0 0).toNat = l):=hL
 have HP : Hid (planCl l ⟨k,a,o,n⟩ = []):=hP
 rw [← doR_snd] at he
 clear hP hL
 have HC : Hid (∀ wx,Ext ((w.alloc (.cells #[I k,I a,I o,I n] 34)).alloc (.cells #[I 0,I 0] 39)) wx → (wx.cell? ⟨w.heap.size,0,none⟩ = some (I k) ∧ wx.cell? ⟨w.heap.size,1,none⟩ = some (I a) ∧ wx.cell? ⟨w.heap.size,2,none⟩ = some (I o) ∧ wx.cell? ⟨w.heap.size,3,none⟩ = some (I n)) ∧
   wx.heap[w.heap.size + 1]? = some (.cells #[I 0,I 0] 39)):=fun wx hx=>by
  have p0 : ((w.alloc (.cells #[I k,I a,I o,I n] 34)).alloc (.cells #[I 0,I 0] 39)).heap[w.heap.size]? = some (.cells #[I k,I a,I o,I n] 34):=by
   rw [heap_alloc_old _ _ (by simp)]; exact heap_alloc_new _ _
  have p1 : ((w.alloc (.cells #[I k,I a,I o,I n] 34)).alloc (.cells #[I 0,I 0] 39)).heap[w.heap.size + 1]? = some (.cells #[I 0,I 0] 39):=by
   have:=heap_alloc_new (w.alloc (.cells #[I k,I a,I o,I n] 34)) (.cells #[I 0,I 0] 39)
   simpa using this
  refine ⟨⟨hx.cell (cell_block p0 rfl),hx.cell (cell_block p0 rfl),hx.cell (cell_block p0 rfl),hx.cell (cell_block p0 rfl)⟩,?_⟩
  rw [hx.block _ (by simp)]
  exact p1
 have e0 : Ext w ((w.alloc (.cells #[I k,I a,I o,I n] 34)).alloc (.cells #[I 0,I 0] 39)):=((Ext.refl w).alloc _).alloc _
 go_enter Tryz.func37,Tryz.ntmps37
 go_wp2_with fail
 refine (refOfW_any v xs _ (hv.ext e0) hx.c).mono ?_
 rintro e w1 ⟨h1,rfl,e1,hw1⟩
 rw [HL.out] at hw1
 obtain ⟨⟨d0,d1,d2,d3⟩,_⟩:=HC.out w1 e1
 go_wp2_with fail
 refine (wDo_any h1 l k a o n w1 hw1 hok hc).mono ?_
 rintro e w2 ⟨⟨u,rfl,_,_⟩,e2⟩
 clear d0 d1 d2 d3
 generalize hD : doR l ⟨k,a,o,n⟩ = D at *
 have HD : Hid (doR l ⟨k,a,o,n⟩ = D):=hD
 clear hD
 obtain ⟨D1,D2,D3⟩:=D
 simp only [] at he
 have hb : (D2 != 0) = true:=by simpa using he
 clear he
 obtain ⟨_,hbx⟩:=HC.out (w2.alloc (.cells #[I D2,I D3] 39)) (e1.trans (e2.trans ((Ext.refl w2).alloc _)))
 have m3:=e0.trans (e1.trans (e2.trans ((Ext.refl w2).alloc (.cells #[I D2,I D3] 39))))
 obtain ⟨x0,x1,f0,f1⟩:=box_of hbx (Ext.refl _)
 obtain ⟨_,hbx2⟩:=HC.out w2 (e1.trans e2)
 obtain ⟨y0,y1,g0,g1⟩:=box_of hbx2 (Ext.refl _)
 have hbs : w.heap.size + 1 < w2.heap.size:=(Array.getElem?_eq_some_iff.1 hbx2).1
 go_wp2_with fail
 go_region
 have hm : Ext w w2:=e0.trans (e1.trans e2)
 have hend : Ext w (((w2.setCell ⟨w.heap.size + 1,0,none⟩ (I D2)).setCell ⟨w.heap.size + 1,1,none⟩ (I D3)).alloc (.cells #[I D2,I D3] 39)).drew:=(((hm.setCell (by simp only []; omega) _).setCell (by simp only []; omega) _).alloc _).drew
 go_wp2
 try simp only [Exit.inBlock,Exit.then]
 refine bodyPost_ret (by simp [results,Tryz.results37,go_sem,y0,y1,hbs]; rfl) rfl ?_
 refine ⟨⟨.slice none 0 0,?_,?_⟩,hend⟩
 ·rw [← doR_snd,HD.out]
 ·rw [HP.out]; exact Has.nil _ _

end Go.Proofs.YtdmipnnfooleladGreat

namespace Go.Proofs.YtdmipnnfooleladGreat
open Go.RowKit Go.Mk
set_option maxRecDepth 100000

/-- What is known when the document's Plan has asked Of, Do and Find. -/
theorem plan_boxes {w : World} {o1 o2 : Obj} {wx : World} {v0 v1 v2 v3 : Value} (h1 : o1 = .cells #[v0,v1,v2,v3] 34 (0,0)) (h2 : o2 = .cells #[I 0,I 0] 39 (0,0)) (hx : Ext ((w.alloc o1).alloc o2) wx) :
  (wx.cell? ⟨w.heap.size,0,none⟩ = some v0 ∧ wx.cell? ⟨w.heap.size,1,none⟩ = some v1 ∧ wx.cell? ⟨w.heap.size,2,none⟩ = some v2 ∧ wx.cell? ⟨w.heap.size,3,none⟩ = some v3) ∧ wx.heap[w.heap.size + 1]? = some (.cells #[I 0,I 0] 39 (0,0)):=by
 subst h1 h2
 have p0 : ((w.alloc (.cells #[v0,v1,v2,v3] 34 (0,0))).alloc (.cells #[I 0,I 0] 39 (0,0))).heap[w.heap.size]? = some (.cells #[v0,v1,v2,v3] 34 (0,0)):=by
  rw [heap_alloc_old _ _ (by simp)]; exact heap_alloc_new _ _
 have p1 : ((w.alloc (.cells #[v0,v1,v2,v3] 34 (0,0))).alloc (.cells #[I 0,I 0] 39 (0,0))).heap[w.heap.size + 1]? = some (.cells #[I 0,I 0] 39 (0,0)):=by
  have:=heap_alloc_new (w.alloc (.cells #[v0,v1,v2,v3] 34 (0,0))) (.cells #[I 0,I 0] 39 (0,0))
  simpa using this
 refine ⟨⟨hx.cell (cell_block p0 rfl),hx.cell (cell_block p0 rfl),hx.cell (cell_block p0 rfl),hx.cell (cell_block p0 rfl)⟩,?_⟩
 rw [hx.block _ (by simp)]
 exact p1

theorem set2d {w : World} {b : Nat} {t : TypeId} {p q : Value} (h : w.heap[b]? = some (.cells #[p,q] t (0,0))) (u v : Value) : ((w.setCell ⟨b,0,none⟩ u).setCell ⟨b,1,none⟩ v).heap[b]? = some (.cells #[u,v] t (0,0)):=by
 have h1:=heap_setCell_same _ _ 0 _ _ u h
 have h2:=heap_setCell_same _ _ 1 _ _ v h1
 simpa using h2

theorem has_lit {w : World} (l : List (Int × Int)) (cs : Array Value) (n : Nat) (hc : cs.toList = cells2 l) (hn : l.length = n) (hm : n ≤ maxLen) (b : Nat) (hb : b ≤ w.heap.size) : Has b (w.alloc (.cells cs 79)) (.slice (some ⟨w.heap.size,0,none⟩) n n) l:=by
 subst hn
 have:=World.ownsRow_lit (base:=b) (e:=79) (size:=2) w cs l.length hb hm (by rw [← Array.length_toList,hc,length_cells2])
 rw [hc] at this
 exact ⟨_,_,l,this,fun w2 h2=>writes_of_owns h2⟩

/-- The end of the document's Plan: what is told is laid in its box. -/
theorem plan_end {w w2 w4 : World} {l : List (Int × Int)} {c : Cl} {D1 : List (Int × Int)} {D3 : Int} {u : Value} (hD : doR l c = (D1,⟨0,D3⟩)) (hsz : w.heap.size + 1 < w2.heap.size) (m4 : Ext w w4) (hu : Has (w2.heap.size + 1) w4 u (planCl l c)) :
  PlansR w.heap.size l c (.returned (.tuple #[u,.agg #[I 0,I D3]])) ((w4.setCell ⟨w.heap.size + 1,0,none⟩ (I 0)).setCell ⟨w.heap.size + 1,1,none⟩ (I D3)) ∧ Ext w ((w4.setCell ⟨w.heap.size + 1,0,none⟩ (I 0)).setCell ⟨w.heap.size + 1,1,none⟩ (I D3)):=by
 refine ⟨⟨u,by rw [← doR_snd,hD],?_⟩,(m4.setCell (by simp only []; omega) _).setCell (by simp only []; omega) _⟩
 exact ((hu.set (by omega) 0 (I 0)).set (by omega) 1 (I D3)).low (by omega)

set_option maxHeartbeats 4000000 in
theorem rPlan_get (v : Value) (xs : List Int) (a o n : Int) (w : World) (hv : Ints w v xs) (hx : Weak xs) (hc : wrongCl ⟨2,a,o,n⟩ = 0) (l : List (Int × Int)) (hL : ofCells xs (xs.getD 0 0).toNat = l) (D1 : List (Int × Int)) (D3 : Int) (hD : doR l ⟨2,a,o,n⟩ = (D1,⟨0,D3⟩)) (hDl : D1 = l) (hP : planCl l ⟨2,a,o,n⟩ = []) :
  Calls Tryz.prog 37 #[v,.agg #[I 2,I a,I o,I n]] w fun e w'=>PlansR w.heap.size l ⟨2,a,o,n⟩ e w' ∧ Ext w w':=by
 obtain ⟨hl11,hx0,hx5,hok⟩:=id hx
 have hln : l.length = (xs.getD 0 0).toNat:=by rw [← hL,length_ofCells]
 have hl5 : l.length ≤ 5:=by omega
 rw [hL] at hok
 have hfind:=fun nm wx (hw : Ints wx v xs)=>refFind_any v xs nm wx hw hl11 hx0 hx5
 have hfa:=find_at1 xs a (xs.getD 0 0).toNat
 rw [hL,← hln] at hfa
 have hfo:=find_at1 xs o (xs.getD 0 0).toNat
 rw [hL,← hln] at hfo
 rw [← hln] at hfind
 have HL:=Lib.hid hL
 have HD:=Lib.hid hD
 have HX:=Lib.hid hx
 have HOK:=Lib.hid hok
 have HCW:=Lib.hid hc
 have HV:=Lib.hid hv
 clear hL hD hx hok hc hln hl11 hx0 hx5 hv
 have e0 : Ext w ((w.alloc (.cells #[I 2,I a,I o,I n] 34)).alloc (.cells #[I 0,I 0] 39)):=((Ext.refl w).alloc _).alloc _
 go_enter Tryz.func37,Tryz.ntmps37
 go_wp2_with fail
 refine (refOfW_any v xs _ (HV.out.ext e0) HX.out.c).mono ?_
 rintro e w1 ⟨h1,rfl,e1,hw1⟩
 rw [HL.out] at hw1
 obtain ⟨⟨d0,d1,d2,d3⟩,-⟩:=plan_boxes rfl rfl e1
 obtain ⟨ao,cap,rfl,hq1,hq2,-⟩:=hw1.form
 unfold maxLen at hq2
 have HW1:=Lib.hid hw1
 clear hw1
 go_wp2_with fail
 refine (wDo_any _ l 2 a o n w1 HW1.out HOK.out HCW.out).mono ?_
 rintro e w2 ⟨⟨u,rfl,hu,-⟩,e2⟩
 rw [HD.out] at hu ⊢
 simp only [] at hu
 obtain ⟨bo,cap2,rfl,hr1,hr2,hcells⟩:=hu.form
 unfold maxLen at hr2
 have HU:=Lib.hid hu
 have HCE:=Lib.hid hcells
 clear d0 d1 d2 d3 hu hcells
 have m2 : Ext w w2:=e0.trans (e1.trans e2)
 have HB : Hid (∀ wx,Ext (w2.alloc (.cells #[I 0,I D3] 39)) wx → ((wx.cell? ⟨w.heap.size,0,none⟩ = some (I 2) ∧ wx.cell? ⟨w.heap.size,1,none⟩ = some (I a) ∧ wx.cell? ⟨w.heap.size,2,none⟩ = some (I o) ∧ wx.cell? ⟨w.heap.size,3,none⟩ = some (I n)) ∧ wx.heap[w.heap.size + 1]? = some (.cells #[I 0,I 0] 39 (0,0))) ∧ wx.heap[w2.heap.size]? = some (.cells #[I 0,I D3] 39 (0,0))):=fun wx hx =>
  ⟨plan_boxes rfl rfl (e1.trans (e2.trans (((Ext.refl w2).alloc _).trans hx))),block_ext hx⟩
 obtain ⟨⟨⟨c0,c1,c2,c3⟩,rb⟩,sb⟩:=HB.out _ (Ext.refl _)
 obtain ⟨x0,x1,f0,f1⟩:=box_of rb (Ext.refl _)
 obtain ⟨y0,y1,-,-⟩:=box_of sb (Ext.refl _)
 have hvv : Ints (w2.alloc (.cells #[I 0,I D3] 39)) v xs:=HV.out.ext (m2.alloc _)
 have hsz : w.heap.size + 1 < w2.heap.size:=by
  have:=(Array.getElem?_eq_some_iff.1 (plan_boxes rfl rfl (e1.trans e2)).2).1
  exact this
 have hlen : D1.length = l.length:=by rw [hDl]
 have HP:=Lib.hid hP
 generalize findIn xs a l.length 0 = fa at *
 clear hDl hP
 rw [hlen]
 clear hlen
 go_wp2_with (go_at_call 63; refine Calls.same (hfind _ _ hvv) ?_)
 refine wp_region_mono_tail 3 [none,none,none] (by kernel_rfl) (by kernel_rfl) ?_ ?_
 ·exact ⟨trivial,trivial,trivial,trivial⟩
 iterate 1 (refine wpM_p (fun K hK=>?_); go_simp; refine hK _ ?_; clear hK K)
 refine wpM_q (.agg #[I 0,I D3]) rfl (fun w' hw'=>by have q0:=hw'.cell y0; have q1:=hw'.cell y1; go_simp) ?_
 iterate 1 (refine wpM_p (fun K hK=>?_); go_simp; refine hK _ ?_; clear hK K)
 refine wpM_nil ?_
 intro w4 he4 _
 have hr : Has (w2.heap.size + 1) w4 (.slice none 0 0) []:=Has.nil _ _
 clear c0 c1 c2 c3 x0 x1 f0 f1 y0 y1 rb sb
 obtain ⟨⟨-,rb4⟩,sb4⟩:=HB.out w4 he4
 obtain ⟨x0,x1,f0,f1⟩:=box_of rb4 (Ext.refl _)
 go_wp2
 obtain ⟨z0,z1,-,-⟩:=box_of (set2d rb4 (I 0) (I D3)) (Ext.refl _)
 clear x0 x1 f0 f1
 refine bodyPost_ret (by simp [results,Tryz.results37,go_sem,z0,z1]; rfl) rfl ?_
 exact plan_end HD.out hsz ((m2.alloc _).trans he4) (by rw [HP.out]; exact hr)


set_option maxHeartbeats 4000000 in
theorem rPlan_count (v : Value) (xs : List Int) (a o n : Int) (w : World) (hv : Ints w v xs) (hx : Weak xs) (hc : wrongCl ⟨5,a,o,n⟩ = 0) (l : List (Int × Int)) (hL : ofCells xs (xs.getD 0 0).toNat = l) (D1 : List (Int × Int)) (D3 : Int) (hD : doR l ⟨5,a,o,n⟩ = (D1,⟨0,D3⟩)) (hDl : D1 = l) (hP : planCl l ⟨5,a,o,n⟩ = []) :
  Calls Tryz.prog 37 #[v,.agg #[I 5,I a,I o,I n]] w fun e w'=>PlansR w.heap.size l ⟨5,a,o,n⟩ e w' ∧ Ext w w':=by
 obtain ⟨hl11,hx0,hx5,hok⟩:=id hx
 have hln : l.length = (xs.getD 0 0).toNat:=by rw [← hL,length_ofCells]
 have hl5 : l.length ≤ 5:=by omega
 rw [hL] at hok
 have hfind:=fun nm wx (hw : Ints wx v xs)=>refFind_any v xs nm wx hw hl11 hx0 hx5
 have hfa:=find_at1 xs a (xs.getD 0 0).toNat
 rw [hL,← hln] at hfa
 have hfo:=find_at1 xs o (xs.getD 0 0).toNat
 rw [hL,← hln] at hfo
 rw [← hln] at hfind
 have HL:=Lib.hid hL
 have HD:=Lib.hid hD
 have HX:=Lib.hid hx
 have HOK:=Lib.hid hok
 have HCW:=Lib.hid hc
 have HV:=Lib.hid hv
 clear hL hD hx hok hc hln hl11 hx0 hx5 hv
 have e0 : Ext w ((w.alloc (.cells #[I 5,I a,I o,I n] 34)).alloc (.cells #[I 0,I 0] 39)):=((Ext.refl w).alloc _).alloc _
 go_enter Tryz.func37,Tryz.ntmps37
 go_wp2_with fail
 refine (refOfW_any v xs _ (HV.out.ext e0) HX.out.c).mono ?_
 rintro e w1 ⟨h1,rfl,e1,hw1⟩
 rw [HL.out] at hw1
 obtain ⟨⟨d0,d1,d2,d3⟩,-⟩:=plan_boxes rfl rfl e1
 obtain ⟨ao,cap,rfl,hq1,hq2,-⟩:=hw1.form
 unfold maxLen at hq2
 have HW1:=Lib.hid hw1
 clear hw1
 go_wp2_with fail
 refine (wDo_any _ l 5 a o n w1 HW1.out HOK.out HCW.out).mono ?_
 rintro e w2 ⟨⟨u,rfl,hu,-⟩,e2⟩
 rw [HD.out] at hu ⊢
 simp only [] at hu
 obtain ⟨bo,cap2,rfl,hr1,hr2,hcells⟩:=hu.form
 unfold maxLen at hr2
 have HU:=Lib.hid hu
 have HCE:=Lib.hid hcells
 clear d0 d1 d2 d3 hu hcells
 have m2 : Ext w w2:=e0.trans (e1.trans e2)
 have HB : Hid (∀ wx,Ext (w2.alloc (.cells #[I 0,I D3] 39)) wx → ((wx.cell? ⟨w.heap.size,0,none⟩ = some (I 5) ∧ wx.cell? ⟨w.heap.size,1,none⟩ = some (I a) ∧ wx.cell? ⟨w.heap.size,2,none⟩ = some (I o) ∧ wx.cell? ⟨w.heap.size,3,none⟩ = some (I n)) ∧ wx.heap[w.heap.size + 1]? = some (.cells #[I 0,I 0] 39 (0,0))) ∧ wx.heap[w2.heap.size]? = some (.cells #[I 0,I D3] 39 (0,0))):=fun wx hx =>
  ⟨plan_boxes rfl rfl (e1.trans (e2.trans (((Ext.refl w2).alloc _).trans hx))),block_ext hx⟩
 obtain ⟨⟨⟨c0,c1,c2,c3⟩,rb⟩,sb⟩:=HB.out _ (Ext.refl _)
 obtain ⟨x0,x1,f0,f1⟩:=box_of rb (Ext.refl _)
 obtain ⟨y0,y1,-,-⟩:=box_of sb (Ext.refl _)
 have hvv : Ints (w2.alloc (.cells #[I 0,I D3] 39)) v xs:=HV.out.ext (m2.alloc _)
 have hsz : w.heap.size + 1 < w2.heap.size:=by
  have:=(Array.getElem?_eq_some_iff.1 (plan_boxes rfl rfl (e1.trans e2)).2).1
  exact this
 have hlen : D1.length = l.length:=by rw [hDl]
 have HP:=Lib.hid hP
 generalize findIn xs a l.length 0 = fa at *
 clear hDl hP
 rw [hlen]
 clear hlen
 go_wp2_with (go_at_call 63; refine Calls.same (hfind _ _ hvv) ?_)
 refine wp_region_mono_tail 3 [none,none,none] (by kernel_rfl) (by kernel_rfl) ?_ ?_
 ·exact ⟨trivial,trivial,trivial,trivial⟩
 iterate 1 (refine wpM_p (fun K hK=>?_); go_simp; refine hK _ ?_; clear hK K)
 refine wpM_q (.agg #[I 0,I D3]) rfl (fun w' hw'=>by have q0:=hw'.cell y0; have q1:=hw'.cell y1; go_simp) ?_
 iterate 1 (refine wpM_p (fun K hK=>?_); go_simp; refine hK _ ?_; clear hK K)
 refine wpM_nil ?_
 intro w4 he4 _
 have hr : Has (w2.heap.size + 1) w4 (.slice none 0 0) []:=Has.nil _ _
 clear c0 c1 c2 c3 x0 x1 f0 f1 y0 y1 rb sb
 obtain ⟨⟨-,rb4⟩,sb4⟩:=HB.out w4 he4
 obtain ⟨x0,x1,f0,f1⟩:=box_of rb4 (Ext.refl _)
 go_wp2
 obtain ⟨z0,z1,-,-⟩:=box_of (set2d rb4 (I 0) (I D3)) (Ext.refl _)
 clear x0 x1 f0 f1
 refine bodyPost_ret (by simp [results,Tryz.results37,go_sem,z0,z1]; rfl) rfl ?_
 exact plan_end HD.out hsz ((m2.alloc _).trans he4) (by rw [HP.out]; exact hr)



set_option maxHeartbeats 4000000 in
theorem rPlan_put (v : Value) (xs : List Int) (a o n : Int) (w : World) (hv : Ints w v xs) (hx : Weak xs) (hc : wrongCl ⟨1,a,o,n⟩ = 0) (l : List (Int × Int)) (hL : ofCells xs (xs.getD 0 0).toNat = l) (D1 : List (Int × Int)) (D3 : Int) (hD : doR l ⟨1,a,o,n⟩ = (D1,⟨0,D3⟩)) (hat : at1 l a < l.length) (hDl : D1.length = l.length) (m : Int) (hm : (D1.getD (at1 l a) (0,0)).2 = m) (hP : planCl l ⟨1,a,o,n⟩ = [(2 + 2 * (at1 l a : Int),m)]) :
  Calls Tryz.prog 37 #[v,.agg #[I 1,I a,I o,I n]] w fun e w'=>PlansR w.heap.size l ⟨1,a,o,n⟩ e w' ∧ Ext w w':=by
 obtain ⟨hl11,hx0,hx5,hok⟩:=id hx
 have hln : l.length = (xs.getD 0 0).toNat:=by rw [← hL,length_ofCells]
 have hl5 : l.length ≤ 5:=by omega
 rw [hL] at hok
 have hfind:=fun nm wx (hw : Ints wx v xs)=>refFind_any v xs nm wx hw hl11 hx0 hx5
 have hfa:=find_at1 xs a (xs.getD 0 0).toNat
 rw [hL,← hln] at hfa
 have hfo:=find_at1 xs o (xs.getD 0 0).toNat
 rw [hL,← hln] at hfo
 rw [← hln] at hfind
 have HL:=Lib.hid hL
 have HD:=Lib.hid hD
 have HX:=Lib.hid hx
 have HOK:=Lib.hid hok
 have HCW:=Lib.hid hc
 have HV:=Lib.hid hv
 clear hL hD hx hok hc hln hl11 hx0 hx5 hv
 have e0 : Ext w ((w.alloc (.cells #[I 1,I a,I o,I n] 34)).alloc (.cells #[I 0,I 0] 39)):=((Ext.refl w).alloc _).alloc _
 go_enter Tryz.func37,Tryz.ntmps37
 go_wp2_with fail
 refine (refOfW_any v xs _ (HV.out.ext e0) HX.out.c).mono ?_
 rintro e w1 ⟨h1,rfl,e1,hw1⟩
 rw [HL.out] at hw1
 obtain ⟨⟨d0,d1,d2,d3⟩,-⟩:=plan_boxes rfl rfl e1
 obtain ⟨ao,cap,rfl,hq1,hq2,-⟩:=hw1.form
 unfold maxLen at hq2
 have HW1:=Lib.hid hw1
 clear hw1
 go_wp2_with fail
 refine (wDo_any _ l 1 a o n w1 HW1.out HOK.out HCW.out).mono ?_
 rintro e w2 ⟨⟨u,rfl,hu,-⟩,e2⟩
 rw [HD.out] at hu ⊢
 simp only [] at hu
 obtain ⟨bo,cap2,rfl,hr1,hr2,hcells⟩:=hu.form
 unfold maxLen at hr2
 have HU:=Lib.hid hu
 have HCE:=Lib.hid hcells
 clear d0 d1 d2 d3 hu hcells
 have m2 : Ext w w2:=e0.trans (e1.trans e2)
 have HB : Hid (∀ wx,Ext (w2.alloc (.cells #[I 0,I D3] 39)) wx → ((wx.cell? ⟨w.heap.size,0,none⟩ = some (I 1) ∧ wx.cell? ⟨w.heap.size,1,none⟩ = some (I a) ∧ wx.cell? ⟨w.heap.size,2,none⟩ = some (I o) ∧ wx.cell? ⟨w.heap.size,3,none⟩ = some (I n)) ∧ wx.heap[w.heap.size + 1]? = some (.cells #[I 0,I 0] 39 (0,0))) ∧ wx.heap[w2.heap.size]? = some (.cells #[I 0,I D3] 39 (0,0))):=fun wx hx =>
  ⟨plan_boxes rfl rfl (e1.trans (e2.trans (((Ext.refl w2).alloc _).trans hx))),block_ext hx⟩
 obtain ⟨⟨⟨c0,c1,c2,c3⟩,rb⟩,sb⟩:=HB.out _ (Ext.refl _)
 obtain ⟨x0,x1,f0,f1⟩:=box_of rb (Ext.refl _)
 obtain ⟨y0,y1,-,-⟩:=box_of sb (Ext.refl _)
 have hvv : Ints (w2.alloc (.cells #[I 0,I D3] 39)) v xs:=HV.out.ext (m2.alloc _)
 have hsz : w.heap.size + 1 < w2.heap.size:=by
  have:=(Array.getElem?_eq_some_iff.1 (plan_boxes rfl rfl (e1.trans e2)).2).1
  exact this
 have hfA:=fun wx hw=>hfind a wx hw
 rw [hfa,if_pos hat] at hfA
 have HP:=Lib.hid hP
 obtain ⟨b,off,rfl,-,ce⟩:=HCE.out (at1 l a) (by omega)
 rw [hm] at ce
 have ce':=((Ext.refl w2).alloc (.cells #[I 0,I D3] 39)).cell ce
 rw [hDl]
 generalize at1 l a = i at *
 have hi1 : (i : Int) < (l.length : Int):=by omega
 have hi0 : ¬ (i : Int) < 0:=by omega
 have hw1 : IntKind.i64.wrap (2 * (i : Int)) = 2 * i:=by rw [IntKind.wrap_i64]; omega
 have hw2 : IntKind.i64.wrap (2 + 2 * (i : Int)) = 2 + 2 * i:=by rw [IntKind.wrap_i64]; omega
 clear hDl hP hm hfa hfo hfind HCE
 go_wp2_with (go_at_call 63; refine Calls.same (hfA _ hvv) ?_)
 refine wp_region_mono_tail 12 [none,none,none,none,none,none,none,none,none,some (.inr fun v wx=>Has (w2.heap.size + 1) wx v [(2 + 2 * (i : Int),m)]),none,none] (by kernel_rfl) (by kernel_rfl) ?_ ?_
 ·exact ⟨trivial,trivial,trivial,trivial,trivial,trivial,trivial,trivial,trivial,monoHas _ _,trivial,trivial,trivial⟩
 iterate 7 (refine wpM_p (fun K hK=>?_); go_simp; refine hK _ ?_; clear hK K)
 refine wpM_q (I m) rfl (fun w' hw'=>by have q0:=hw'.cell ce'; go_simp) ?_
 iterate 1 (refine wpM_p (fun K hK=>?_); go_simp; refine hK _ ?_; clear hK K)
 refine wpM_l _ rfl (fun w' hw' _=>?_) (fun v125=>?_)
 ·unfold makes
  go_simp
  exact ⟨(Ext.refl _).alloc _,has_lit [(2 + 2 * (i : Int),m)] _ 1 rfl rfl (by decide) _ (by have:=hw'.size; simpa using this)⟩
 refine wpM_q (.agg #[I 0,I D3]) rfl (fun w' hw'=>by have q0:=hw'.cell y0; have q1:=hw'.cell y1; go_simp) ?_
 iterate 1 (refine wpM_p (fun K hK=>?_); go_simp; refine hK _ ?_; clear hK K)
 refine wpM_nil ?_
 intro w4 he4 hF
 have hr : Has (w2.heap.size + 1) w4 v125 [(2 + 2 * (i : Int),m)]:=hF 125
 clear c0 c1 c2 c3 x0 x1 f0 f1 y0 y1 rb sb hF ce ce' hw1 hw2
 obtain ⟨⟨-,rb4⟩,sb4⟩:=HB.out w4 he4
 obtain ⟨x0,x1,f0,f1⟩:=box_of rb4 (Ext.refl _)
 go_wp2
 obtain ⟨z0,z1,-,-⟩:=box_of (set2d rb4 (I 0) (I D3)) (Ext.refl _)
 clear x0 x1 f0 f1
 refine bodyPost_ret (by simp [results,Tryz.results37,go_sem,z0,z1]; rfl) rfl ?_
 exact plan_end HD.out hsz ((m2.alloc _).trans he4) (by rw [HP.out]; exact hr)

set_option maxHeartbeats 4000000 in
theorem rPlan_add (v : Value) (xs : List Int) (a o n : Int) (w : World) (hv : Ints w v xs) (hx : Weak xs) (hc : wrongCl ⟨4,a,o,n⟩ = 0) (l : List (Int × Int)) (hL : ofCells xs (xs.getD 0 0).toNat = l) (D1 : List (Int × Int)) (D3 : Int) (hD : doR l ⟨4,a,o,n⟩ = (D1,⟨0,D3⟩)) (hat : at1 l a < l.length) (hDl : D1.length = l.length) (m : Int) (hm : (D1.getD (at1 l a) (0,0)).2 = m) (hP : planCl l ⟨4,a,o,n⟩ = [(2 + 2 * (at1 l a : Int),m)]) :
  Calls Tryz.prog 37 #[v,.agg #[I 4,I a,I o,I n]] w fun e w'=>PlansR w.heap.size l ⟨4,a,o,n⟩ e w' ∧ Ext w w':=by
 obtain ⟨hl11,hx0,hx5,hok⟩:=id hx
 have hln : l.length = (xs.getD 0 0).toNat:=by rw [← hL,length_ofCells]
 have hl5 : l.length ≤ 5:=by omega
 rw [hL] at hok
 have hfind:=fun nm wx (hw : Ints wx v xs)=>refFind_any v xs nm wx hw hl11 hx0 hx5
 have hfa:=find_at1 xs a (xs.getD 0 0).toNat
 rw [hL,← hln] at hfa
 have hfo:=find_at1 xs o (xs.getD 0 0).toNat
 rw [hL,← hln] at hfo
 rw [← hln] at hfind
 have HL:=Lib.hid hL
 have HD:=Lib.hid hD
 have HX:=Lib.hid hx
 have HOK:=Lib.hid hok
 have HCW:=Lib.hid hc
 have HV:=Lib.hid hv
 clear hL hD hx hok hc hln hl11 hx0 hx5 hv
 have e0 : Ext w ((w.alloc (.cells #[I 4,I a,I o,I n] 34)).alloc (.cells #[I 0,I 0] 39)):=((Ext.refl w).alloc _).alloc _
 go_enter Tryz.func37,Tryz.ntmps37
 go_wp2_with fail
 refine (refOfW_any v xs _ (HV.out.ext e0) HX.out.c).mono ?_
 rintro e w1 ⟨h1,rfl,e1,hw1⟩
 rw [HL.out] at hw1
 obtain ⟨⟨d0,d1,d2,d3⟩,-⟩:=plan_boxes rfl rfl e1
 obtain ⟨ao,cap,rfl,hq1,hq2,-⟩:=hw1.form
 unfold maxLen at hq2
 have HW1:=Lib.hid hw1
 clear hw1
 go_wp2_with fail
 refine (wDo_any _ l 4 a o n w1 HW1.out HOK.out HCW.out).mono ?_
 rintro e w2 ⟨⟨u,rfl,hu,-⟩,e2⟩
 rw [HD.out] at hu ⊢
 simp only [] at hu
 obtain ⟨bo,cap2,rfl,hr1,hr2,hcells⟩:=hu.form
 unfold maxLen at hr2
 have HU:=Lib.hid hu
 have HCE:=Lib.hid hcells
 clear d0 d1 d2 d3 hu hcells
 have m2 : Ext w w2:=e0.trans (e1.trans e2)
 have HB : Hid (∀ wx,Ext (w2.alloc (.cells #[I 0,I D3] 39)) wx → ((wx.cell? ⟨w.heap.size,0,none⟩ = some (I 4) ∧ wx.cell? ⟨w.heap.size,1,none⟩ = some (I a) ∧ wx.cell? ⟨w.heap.size,2,none⟩ = some (I o) ∧ wx.cell? ⟨w.heap.size,3,none⟩ = some (I n)) ∧ wx.heap[w.heap.size + 1]? = some (.cells #[I 0,I 0] 39 (0,0))) ∧ wx.heap[w2.heap.size]? = some (.cells #[I 0,I D3] 39 (0,0))):=fun wx hx =>
  ⟨plan_boxes rfl rfl (e1.trans (e2.trans (((Ext.refl w2).alloc _).trans hx))),block_ext hx⟩
 obtain ⟨⟨⟨c0,c1,c2,c3⟩,rb⟩,sb⟩:=HB.out _ (Ext.refl _)
 obtain ⟨x0,x1,f0,f1⟩:=box_of rb (Ext.refl _)
 obtain ⟨y0,y1,-,-⟩:=box_of sb (Ext.refl _)
 have hvv : Ints (w2.alloc (.cells #[I 0,I D3] 39)) v xs:=HV.out.ext (m2.alloc _)
 have hsz : w.heap.size + 1 < w2.heap.size:=by
  have:=(Array.getElem?_eq_some_iff.1 (plan_boxes rfl rfl (e1.trans e2)).2).1
  exact this
 have hfA:=fun wx hw=>hfind a wx hw
 rw [hfa,if_pos hat] at hfA
 have HP:=Lib.hid hP
 obtain ⟨b,off,rfl,-,ce⟩:=HCE.out (at1 l a) (by omega)
 rw [hm] at ce
 have ce':=((Ext.refl w2).alloc (.cells #[I 0,I D3] 39)).cell ce
 rw [hDl]
 generalize at1 l a = i at *
 have hi1 : (i : Int) < (l.length : Int):=by omega
 have hi0 : ¬ (i : Int) < 0:=by omega
 have hw1 : IntKind.i64.wrap (2 * (i : Int)) = 2 * i:=by rw [IntKind.wrap_i64]; omega
 have hw2 : IntKind.i64.wrap (2 + 2 * (i : Int)) = 2 + 2 * i:=by rw [IntKind.wrap_i64]; omega
 clear hDl hP hm hfa hfo hfind HCE
 go_wp2_with (go_at_call 63; refine Calls.same (hfA _ hvv) ?_)
 refine wp_region_mono_tail 12 [none,none,none,none,none,none,none,none,none,some (.inr fun v wx=>Has (w2.heap.size + 1) wx v [(2 + 2 * (i : Int),m)]),none,none] (by kernel_rfl) (by kernel_rfl) ?_ ?_
 ·exact ⟨trivial,trivial,trivial,trivial,trivial,trivial,trivial,trivial,trivial,monoHas _ _,trivial,trivial,trivial⟩
 iterate 7 (refine wpM_p (fun K hK=>?_); go_simp; refine hK _ ?_; clear hK K)
 refine wpM_q (I m) rfl (fun w' hw'=>by have q0:=hw'.cell ce'; go_simp) ?_
 iterate 1 (refine wpM_p (fun K hK=>?_); go_simp; refine hK _ ?_; clear hK K)
 refine wpM_l _ rfl (fun w' hw' _=>?_) (fun v125=>?_)
 ·unfold makes
  go_simp
  exact ⟨(Ext.refl _).alloc _,has_lit [(2 + 2 * (i : Int),m)] _ 1 rfl rfl (by decide) _ (by have:=hw'.size; simpa using this)⟩
 refine wpM_q (.agg #[I 0,I D3]) rfl (fun w' hw'=>by have q0:=hw'.cell y0; have q1:=hw'.cell y1; go_simp) ?_
 iterate 1 (refine wpM_p (fun K hK=>?_); go_simp; refine hK _ ?_; clear hK K)
 refine wpM_nil ?_
 intro w4 he4 hF
 have hr : Has (w2.heap.size + 1) w4 v125 [(2 + 2 * (i : Int),m)]:=hF 125
 clear c0 c1 c2 c3 x0 x1 f0 f1 y0 y1 rb sb hF ce ce' hw1 hw2
 obtain ⟨⟨-,rb4⟩,sb4⟩:=HB.out w4 he4
 obtain ⟨x0,x1,f0,f1⟩:=box_of rb4 (Ext.refl _)
 go_wp2
 obtain ⟨z0,z1,-,-⟩:=box_of (set2d rb4 (I 0) (I D3)) (Ext.refl _)
 clear x0 x1 f0 f1
 refine bodyPost_ret (by simp [results,Tryz.results37,go_sem,z0,z1]; rfl) rfl ?_
 exact plan_end HD.out hsz ((m2.alloc _).trans he4) (by rw [HP.out]; exact hr)

end Go.Proofs.YtdmipnnfooleladGreat

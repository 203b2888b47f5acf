/- Texts of the proof, merged: M2 M3 M4 M5 M6 M7 M8 W5 M9 P1 P2 P2b P3. -/
import Derived.Test.YtdmipnnfooleladGreatKL
import Derived.Handy
import Derived.Test.YtdmipnnfooleladGreatKA
import Derived.Test.YtdmipnnfooleladGreatKF
import Derived.Test.YtdmipnnfooleladGreatKJ
import Derived.Test.YtdmipnnfooleladGreatKB
import Derived.Lib.Hide

namespace Go.Proofs.YtdmipnnfooleladGreat
open Go.RowKit Go.Mk
set_option maxRecDepth 100000

set_option maxHeartbeats 400000 in
theorem tell_any (v : Value) (n : Int) (w : World) :
  Calls Tryz.prog 107 #[v,I n] w fun e w'=>e = .returned (.tuple #[v,.agg #[I 0,I n]]) ∧ Ext w w':=by
 go_enter Tryz.func107,Tryz.ntmps107
 go_wp2
 go_returns
 exact ⟨rfl,(Ext.refl w).alloc _⟩

set_option maxHeartbeats 400000 in
theorem refuse_any (v : Value) (n : Int) (w : World) :
  Calls Tryz.prog 105 #[v,I n] w fun e w'=>e = .returned (.tuple #[v,.agg #[I n,I 0]]) ∧ Ext w w':=by
 go_enter Tryz.func105,Tryz.ntmps105
 go_wp2
 go_returns
 exact ⟨rfl,(Ext.refl w).alloc _⟩

/-- Where a name is; -1, if it is not there. -/
def find1 (l : List (Int × Int)) (name : Int) : Int:=if at1 l name < l.length then (at1 l name : Int) else -1

set_option maxHeartbeats 400000 in
theorem find_any (v : Value) (l : List (Int × Int)) (name : Int) (w : World) (hv : Writes w v l) :
  Calls Tryz.prog 109 #[v,I name] w fun e w'=>e = .returned (I (find1 l name)) ∧ Ext w w':=by
 obtain ⟨ao,cap,rfl,h1,h2,h3⟩:=hv.form
 unfold maxLen at h2
 clear hv
 go_enter Tryz.func109,Tryz.ntmps109
 go_wp2
 go_loopw [9] (fun i wr=>∃ k : Nat,k ≤ l.length ∧ i = I k ∧ (∀ j,j < k → (l.getD j (0,0)).1 ≠ name) ∧ Ext w wr) (fun i _=>l.length - (intOf i).toNat)
 case atStart=>exact ⟨0,by omega,rfl,fun j hj=>by omega,Ext.refl w⟩
 case round =>
  obtain ⟨k,hk,rfl,hf,he⟩:=hrel
  have HF : Hid (∀ j,j < k → (l.getD j (0,0)).1 ≠ name):=hf
  clear hf
  by_cases hlt : k < l.length
  ·obtain ⟨b,off,rfl,hc1,hc2⟩:=h3 k hlt
   clear h3
   have hd1:=he.cell hc1
   have hd2:=he.cell hc2
   clear hc1 hc2
   generalize hp : l.getD k (0,0) = p at hd1 hd2
   have HP : Hid (l.getD k (0,0) = p):=hp
   clear hp
   obtain ⟨at_,n⟩:=p
   simp only [] at hd1 hd2
   by_cases hn : at_ = name
   ·have hb : (at_ == name) = true:=by simp [hn]
    have HN : Hid (at_ = name):=hn
    clear hn
    go_wp2
    go_ret
    refine ⟨ret_int ?_,he.alloc _⟩
    have:=at1_of hlt (by rw [HP.out]; exact HN.out) HF.out
    unfold find1
    rw [this,if_pos hlt]
   ·have hb : (at_ == name) = false:=by simpa using hn
    have HN : Hid (at_ ≠ name):=hn
    clear hn
    go_wp2
    go_roundw
    case rel =>
     refine ⟨k + 1,by omega,by go_num,fun j hj=>?_,he.alloc _⟩
     by_cases hjk : j < k
     ·exact HF.out j hjk
     ·rw [show j = k by omega,HP.out]; exact HN.out
    case measure=>simp [intOf]; omega
  ·go_wp2
   go_ret
   refine ⟨ret_int ?_,he⟩
   have:=at1_none (l:=l) (name:=name) (fun j hj=>HF.out j (by omega))
   unfold find1
   rw [if_neg (by omega)]

/-- copy(dst, src) of rows of two cells each, both of one length, dst the call's own. -/
theorem run_copy_all2 {P : Program} (w : World) (t ty e : TypeId) (hu : P.underlying t = some (.slice e)) (hsz : (P.info? e).map (·.size) = some 2) (base g n : Nat) (v : Value) (cs old : List Value)
  (hown : w.ownsRow base e 2 (.slice (some ⟨g,0,none⟩) n n) n old) (hv : Row w 2 v n cs) (h1 : ∀ u ∈ cs,u.oneCell' = true) :
  ∃ w',(Builtin.copy_ #[t,t] ty #[.slice (some ⟨g,0,none⟩) n n,v]).run P w = .ok (goInt n) w' ∧ w'.ownsRow base e 2 (.slice (some ⟨g,0,none⟩) n n) n cs ∧ w.grownBy w' (some g):=by
 obtain ⟨hl,ao,cap,rfl,hc,hm,_,hcell⟩:=hv
 obtain ⟨ho,ho'⟩:=hown
 rcases ho' with ⟨h,_⟩ | ⟨g',cap',cur,h,hb,hg,hn,hm',hs,ht⟩
 ·simp at h
 simp only [Value.slice.injEq,Option.some.injEq,Addr.mk.injEq,and_true,true_and] at h
 obtain ⟨rfl,rfl⟩:=h
 cases hq : P.info? e with
 | none=>simp [hq] at hsz
 | some i =>
 have hi : i.size = 2:=by simpa [hq] using hsz
 by_cases h0 : n = 0
 ·subst h0
  have : cs = []:=List.eq_nil_of_length_eq_zero (by simpa using hl)
  subst this
  refine ⟨w,?_,⟨rfl,.inr ⟨g,0,cur,rfl,hb,hg,Nat.le_refl _,hm',by simpa using hs,by simp⟩⟩,World.grownBy.refl _ _⟩
  cases ao <;> simp [Builtin.copy_,run_underlying hu,Builtin.lenOf,Builtin.firstCells,sizeOf,typeInfo,hq,storeCells,loadCells,loadCellsFrom]
 ·have hne : cs ≠ []:=by intro e; subst e; simp at hl; omega
  obtain ⟨c0,hc0⟩ : ∃ c,cs[0]? = some c:=by cases cs with | nil=>exact absurd rfl hne | cons c _=>exact ⟨c,rfl⟩
  obtain ⟨b,off,rfl,_⟩:=hcell 0 c0 hc0
  have hload:=run_loadCells_list (P:=P) w ⟨b,off,none⟩ cs (fun j u hj=>by
   obtain ⟨b',off',e',hc'⟩:=hcell j u hj
   simp only [Option.some.injEq,Addr.mk.injEq,and_true] at e'
   obtain ⟨rfl,rfl⟩:=e'
   rw [add_plain]; exact hc')
  have hst:=run_storeCells_at P g 0 e cs 0 cur w hg (by simp; omega) h1
  rw [hl] at hload
  refine ⟨_,by simp [Builtin.copy_,run_underlying hu,Builtin.lenOf,Builtin.firstCells,sizeOf,typeInfo,hq,hi,hload,hst]; rfl,⟨hl,.inr ⟨g,n,_,rfl,hb,setRow_heap w g cur _ e _ hg,Nat.le_refl _,hm',?_,?_⟩⟩,⟨rfl,rfl,rfl,by simp [World.setRow],fun k _ hk=>setRow_other w g k _ (fun e=>hk (by simp [e]))⟩⟩
  ·simp; omega
  ·simp [← hl]

end Go.Proofs.YtdmipnnfooleladGreat

namespace Go.Proofs.YtdmipnnfooleladGreat
open Go.RowKit Go.Mk
set_option maxRecDepth 100000

set_option maxHeartbeats 400000 in
theorem mown_any (v : Value) (l : List (Int × Int)) (w : World) (hv : Writes w v l) (hr : l.length * 16 ≤ 140737488355328) :
  Calls Tryz.prog 85 #[v] w fun e w'=>e = .returned (.slice (some ⟨w.heap.size,0,none⟩) l.length l.length) ∧ w'.ownsRow w.heap.size 79 2 (.slice (some ⟨w.heap.size,0,none⟩) l.length l.length) l.length (cells2 l) ∧ Ext w w':=by
 obtain ⟨i0,hi,hz0,hz1,hz2⟩:=info_parts Tryz.infoWrite2
 obtain ⟨hlen,ao,cap,rfl,h1,h2,h0,h3⟩:=hv
 unfold maxLen at h2
 go_enter Tryz.func85,Tryz.ntmps85
 go_wp2_with (at_make; refine wpList_make_full _ rfl _ _ 27 rfl w.heap.size 79 i0 (.agg #[.int .i64 0,.int .i64 0]) 2 Tryz.underlying27 hi hz0 hz1 .i64 .i64 _ _ l.length rfl rfl rfl rfl (by rw [hz2]; omega) (by unfold maxLen; omega) (Nat.le_refl _) ?_; intro w1 hown hgrow)
 have he1 : Ext w w1:=(Ext.refl w).grown hgrow (fun k hk=>by cases hk)
 obtain ⟨w2,hrun,hown2,hgrow2⟩:=run_copy_all2 (P:=Tryz.prog) w1 27 3 79 Tryz.underlying27 Tryz.infoWriteSz w.heap.size w.heap.size l.length _ (cells2 l) _ hown (Row.ext ⟨hlen,ao,cap,rfl,h1,h2,h0,h3⟩ he1) (cells2_one l)
 have he2 : Ext w w2:=he1.grown hgrow2 (fun k hk=>by cases hk; exact Nat.le_refl _)
 rw [hrun]
 clear hrun hown hgrow hgrow2 he1 h3
 go_wp2
 go_ret
 exact ⟨rfl,hown2,he2⟩

end Go.Proofs.YtdmipnnfooleladGreat

namespace Go.Proofs.YtdmipnnfooleladGreat
open Go.RowKit Go.Mk
set_option maxRecDepth 100000

/-- What a deed comes to: names, and what is told; of what was there only the row g may have turned. -/
def Told (w : World) (g : Nat) (l : List (Int × Int)) (r : Rp) (e : Ending) (w' : World) : Prop :=
 ∃ u v n lo,e = .returned (.tuple #[u,.agg #[I r.err,I r.n]]) ∧ w'.ownsRow g 79 2 v n (cells2 lo) ∧ (∀ w2 : World,w2.ownsRow g 79 2 v n (cells2 lo) → Writes w2 u l) ∧ w.grownBy w' (some g)

/-- Names of one's own, in the row g. -/
abbrev Owned (w : World) (g : Nat) (l : List (Int × Int)) : Prop:=w.ownsRow g 79 2 (.slice (some ⟨g,0,none⟩) l.length l.length) l.length (cells2 l)

/-- The call's own cell for what is told is new. -/
theorem told_box {w w1 : World} {g b n : Nat} {u v x y : Value} {l l' : List (Int × Int)} {r : Rp} (hb : w.heap.size ≤ b) (ho : w1.ownsRow g 79 2 v n (cells2 l)) (hv : v.ownBlock ≠ some b) (hg : w.grownBy w1 (some g))
  (hu : ∀ w2 : World,w2.ownsRow g 79 2 v n (cells2 l) → Writes w2 u l') : Told w g l' r (.returned (.tuple #[u,.agg #[I r.err,I r.n]])) ((w1.setCell ⟨b,0,none⟩ x).setCell ⟨b,1,none⟩ y) :=
 ⟨u,v,n,l,rfl,owns_setCell (owns_setCell ho hv _ _) hv _ _,hu,grown_new (grown_new hg hb _ _) hb _ _⟩

theorem ne_new {w : World} {g : Nat} {l : List (Int × Int)} (ho : Owned w g l) : (Value.slice (some ⟨g,0,none⟩) l.length l.length).ownBlock ≠ some w.heap.size:=fun e=>by
 have h:=(ho.lt g rfl).2
 have e2 : g = w.heap.size:=by simpa [Value.ownBlock] using e
 rw [e2] at h
 exact Nat.lt_irrefl _ h

set_option maxHeartbeats 400000 in
theorem count_any (l : List (Int × Int)) (g : Nat) (w : World) (ho : Owned w g l) :
  Calls Tryz.prog 97 #[.slice (some ⟨g,0,none⟩) l.length l.length] w fun e w'=>Told w g l ⟨0,l.length⟩ e w':=by
 go_enter Tryz.func97,Tryz.ntmps97
 go_wp2_with fail
 refine Calls.exts (tell_any _ _ _) (fun w1 e1=>?_)
 obtain ⟨c0,c1,f0,f1⟩:=box_ext e1
 go_wp2
 try simp only [Exit.inBlock,Exit.then]
 refine bodyPost_ret (by simp [results,Tryz.results97,go_sem,c0,c1]; rfl) rfl ?_
 have he : Ext w w1:=((Ext.refl w).alloc _).trans e1
 exact told_box (Nat.le_refl _) (owns_ext ho he) (ne_new ho) (he.grownBy _) (fun w2 h2=>writes_of_owns h2)

theorem owned_cells {w : World} {g : Nat} {l : List (Int × Int)} (ho : Owned w g l) (i : Nat) (hi : i < l.length) : w.cell? ⟨g,i * 2,none⟩ = some (I (l.getD i (0,0)).1) ∧ w.cell? ⟨g,i * 2 + 1,none⟩ = some (I (l.getD i (0,0)).2):=by
 obtain ⟨a,b⟩:=cells2_at l i hi
 rw [← ho.cellAt _ (by omega)] at a b
 exact ⟨a,b⟩

set_option maxHeartbeats 400000 in
theorem get_any (l : List (Int × Int)) (g i : Nat) (w : World) (ho : Owned w g l) (hi : i < l.length) :
  Calls Tryz.prog 100 #[.slice (some ⟨g,0,none⟩) l.length l.length,I i] w fun e w'=>Told w g l ⟨0,num l i⟩ e w':=by
 have hc : ∀ o,(w.alloc o).cell? ⟨g,i * 2 + 1,none⟩ = some (I (num l i)):=fun o=>(owned_cells (ho.alloc o) i hi).2
 go_enter Tryz.func100,Tryz.ntmps100
 go_wp2_with fail
 refine Calls.exts (tell_any _ _ _) (fun w1 e1=>?_)
 obtain ⟨c0,c1,f0,f1⟩:=box_ext e1
 go_wp2
 try simp only [Exit.inBlock,Exit.then]
 refine bodyPost_ret (by simp [results,Tryz.results100,go_sem,c0,c1]; rfl) rfl ?_
 have he : Ext w w1:=((Ext.refl w).alloc _).trans e1
 exact told_box (Nat.le_refl _) (owns_ext ho he) (ne_new ho) (he.grownBy _) (fun w2 h2=>writes_of_owns h2)

set_option maxHeartbeats 400000 in
theorem drop_any (l : List (Int × Int)) (g i : Nat) (w : World) (ho : Owned w g l) (hi : i < l.length) (hr : l.length * 16 ≤ 140737488355328) :
  Calls Tryz.prog 101 #[.slice (some ⟨g,0,none⟩) l.length l.length,I i] w fun e w'=>Told w g ((l.set i (l.getD (l.length - 1) (0,0))).take (l.length - 1)) ⟨0,num l i⟩ e w':=by
 have hg : g < w.heap.size:=(ho.lt g rfl).2
 obtain ⟨hc1,hc2⟩:=owned_cells ho i hi
 obtain ⟨hc3,hc4⟩:=owned_cells ho (l.length - 1) (by omega)
 have hf1 : w.frozen? ⟨g,i * 2,none⟩ = false:=ho.frozenAt _
 have hf2 : w.frozen? ⟨g,i * 2 + 1,none⟩ = false:=ho.frozenAt _
 have HN : Hid (num l i = (l.getD i (0,0)).2):=rfl
 generalize hL : l.length - 1 = L at *
 have hLi : (l.length : Int) - 1 = (L : Int):=by omega
 have hLl : (L : Int) < (l.length : Int):=by omega
 have hLt : (L : Int).toNat = L:=by omega
 have HL : Hid (l.length - 1 = L):=hL
 clear hL
 generalize hQ : l.getD L (0,0) = q at *
 have HQ : Hid (l.getD L (0,0) = q):=hQ
 clear hQ
 generalize hP : l.getD i (0,0) = p at *
 obtain ⟨p1,p2⟩:=p
 obtain ⟨q1,q2⟩:=q
 simp only [] at hc1 hc2 hc3 hc4
 rw [HN.out]
 clear hP HN
 go_enter Tryz.func101,Tryz.ntmps101
 go_wp2_with fail
 refine Calls.exts (tell_any _ _ _) (fun w1 e1=>?_)
 obtain ⟨c0,c1,f0,f1⟩:=box_at w.heap.size e1 (by simp)
 have s1:=ho.stored (i * 2) (I q1)
 have s2:=s1.1.stored (i * 2 + 1) (I q2)
 have ho':=owns_ext s2.1 (((Ext.refl _).alloc _).trans e1)
 have hg':=grown_trans (grown_trans s1.2 s2.2) ((((Ext.refl _).alloc _).trans e1).grownBy _)
 clear s1 s2 hc1 hc2 hc3 hc4 hf1 hf2 e1
 go_wp2
 try simp only [Exit.inBlock,Exit.then]
 refine bodyPost_ret (by simp [results,Tryz.results101,go_sem,c0,c1]; rfl) rfl ?_
 have hlen : (l.set i (q1,q2)).length = l.length:=by simp
 rw [show ((cells2 l).set (i * 2) (I q1)).set (i * 2 + 1) (I q2) = cells2 (l.set i (q1,q2)) from (cells2_set l i (q1,q2)).symm,← hlen] at ho'
 exact told_box (Nat.le_refl _) ho' (by rw [hlen]; exact ne_new ho) hg' (fun w2 h2=>by have:=(writes_of_owns h2).take L (by rw [hlen]; omega); rwa [hlen] at this)

theorem owned_put1 {w : World} {g : Nat} {l : List (Int × Int)} (ho : Owned w g l) (i : Nat) (hi : i < l.length) (n : Int) : Owned (w.setCell ⟨g,i * 2 + 1,none⟩ (I n)) g (put1 l i n):=by
 have h:=(ho.stored (i * 2 + 1) (I n)).1
 unfold Owned
 rw [length_put1]
 have e : (cells2 l).set (i * 2 + 1) (I n) = cells2 (put1 l i n):=by
  unfold put1
  rw [cells2_set]
  congr 1
  simp only []
  have h1:=(cells2_at l i hi).1
  obtain ⟨hlt,h2⟩:=List.getElem?_eq_some_iff.1 h1
  rw [← h2,List.set_getElem_self]
 rw [← e]
 exact h

theorem ne_new' {w : World} {g : Nat} {l : List (Int × Int)} (ho : Owned w g l) {n m : Nat} : (Value.slice (some ⟨g,0,none⟩) n m).ownBlock ≠ some w.heap.size:=ne_new ho

set_option maxHeartbeats 400000 in
theorem add_any (l : List (Int × Int)) (g i b : Nat) (n : Int) (w : World) (ho : Owned w g l) (hi : i < l.length) (hb : w.cell? ⟨b,0,none⟩ = some (I n)) (hbl : b < w.heap.size)
  (hn : -1073741824 ≤ n ∧ n ≤ 1073741824) (hm : -1073741824 ≤ num l i ∧ num l i ≤ 1073741824) :
  Calls Tryz.prog 111 #[.slice (some ⟨g,0,none⟩) l.length l.length,I i,.pointer (some ⟨b,0,none⟩)] w fun e w' =>
   if -1073741824 ≤ num l i + n ∧ num l i + n ≤ 1073741824 then Told w g (put1 l i (num l i + n)) ⟨0,num l i + n⟩ e w' else Told w g l ⟨3,0⟩ e w':=by
 have hg : g < w.heap.size:=(ho.lt g rfl).2
 obtain ⟨hc1,hc2⟩:=owned_cells ho i hi
 replace hc2 : w.cell? ⟨g,i * 2 + 1,none⟩ = some (I (num l i)):=hc2
 clear hc1
 have hf2 : w.frozen? ⟨g,i * 2 + 1,none⟩ = false:=ho.frozenAt _
 have HO : Hid (∀ wx m,Ext w wx → Owned (wx.setCell ⟨g,i * 2 + 1,none⟩ (I m)) g (put1 l i m)):=fun wx m hx=>owned_put1 (owns_ext ho hx) i hi m
 generalize num l i = m at *
 obtain ⟨n1,n2⟩:=hn
 obtain ⟨m1,m2⟩:=hm
 by_cases hs : -1073741824 ≤ m + n ∧ m + n ≤ 1073741824
 ·simp only [hs,and_self,if_true]
  obtain ⟨s1,s2⟩:=hs
  go_enter Tryz.func111,Tryz.ntmps111
  go_wp2_with fail
  go_quiet (fail)
  go_wp2_with (go_at_call 94; refine Calls.same (mwithin_any _ _ _ _) ?_)
  refine Calls.exts (tell_any _ _ _) (fun w1 e1=>?_)
  obtain ⟨c0,c1,f0,f1⟩:=box_of (heap_set_new hg) e1
  have ho':=owns_ext (HO.out _ _ (((Ext.refl w).alloc _).drewN _)) e1
  have hg':=grown_trans (grown_trans ((((Ext.refl w).alloc _).drewN nq).grownBy (some g)) (grown_setCell _ g (i * 2 + 1) (I (m + n)))) (e1.grownBy _)
  go_wp2
  try simp only [Exit.inBlock,Exit.then]
  refine bodyPost_ret (by simp [results,Tryz.results111,go_sem,c0,c1]; rfl) rfl ?_
  exact told_box (Nat.le_refl _) ho' (ne_new' ho) hg' (fun w2 h2=>by have:=writes_of_owns h2; rwa [length_put1] at this)
 ·simp only [hs,if_false]
  have hs2 : m + n < -1073741824 ∨ 1073741824 < m + n:=by omega
  clear hs
  rcases hs2 with hs2 | hs2
  ·have d1 : decide (-1073741824 ≤ m + n) = false:=by simp; omega
   go_enter Tryz.func111,Tryz.ntmps111
   go_wp2_with fail
   go_quiet (fail)
   go_wp2_with (go_at_call 94; refine Calls.same (mwithin_any _ _ _ _) ?_)
   refine Calls.exts (refuse_any _ _ _) (fun w1 e1=>?_)
   obtain ⟨c0,c1,f0,f1⟩:=box_of (heap_drew_new w _ _) e1
   have he : Ext w w1:=(((Ext.refl w).alloc _).drewN _).trans e1
   go_wp2
   try simp only [Exit.inBlock,Exit.then]
   refine bodyPost_ret (by simp [results,Tryz.results111,go_sem,c0,c1]; rfl) rfl ?_
   exact told_box (Nat.le_refl _) (owns_ext ho he) (ne_new' ho) (he.grownBy _) (fun w2 h2=>writes_of_owns h2)
  ·have d1 : decide (m + n ≤ 1073741824) = false:=by simp; omega
   go_enter Tryz.func111,Tryz.ntmps111
   go_wp2_with fail
   go_quiet (fail)
   go_wp2_with (go_at_call 94; refine Calls.same (mwithin_any _ _ _ _) ?_)
   refine Calls.exts (refuse_any _ _ _) (fun w1 e1=>?_)
   obtain ⟨c0,c1,f0,f1⟩:=box_of (heap_drew_new w _ _) e1
   have he : Ext w w1:=(((Ext.refl w).alloc _).drewN _).trans e1
   go_wp2
   try simp only [Exit.inBlock,Exit.then]
   refine bodyPost_ret (by simp [results,Tryz.results111,go_sem,c0,c1]; rfl) rfl ?_
   exact told_box (Nat.le_refl _) (owns_ext ho he) (ne_new' ho) (he.grownBy _) (fun w2 h2=>writes_of_owns h2)

end Go.Proofs.YtdmipnnfooleladGreat

namespace Go.Proofs.YtdmipnnfooleladGreat
open Go.RowKit Go.Mk
set_option maxRecDepth 100000

set_option maxHeartbeats 1000000 in
theorem swap_any (l : List (Int × Int)) (g i b : Nat) (name : Int) (w : World) (ho : Owned w g l) (hi : i < l.length) (hb : w.cell? ⟨b,0,none⟩ = some (I name)) (hbl : b < w.heap.size) :
  Calls Tryz.prog 112 #[.slice (some ⟨g,0,none⟩) l.length l.length,I i,.pointer (some ⟨b,0,none⟩)] w fun e w' =>
   if at1 l name < l.length then Told w g (put1 (put1 l i (num l (at1 l name))) (at1 l name) (num l i)) ⟨0,num l (at1 l name)⟩ e w' else Told w g l ⟨6,0⟩ e w':=by
 have hg : g < w.heap.size:=(ho.lt g rfl).2
 by_cases ha : at1 l name < l.length
 case neg =>
  simp only [ha,if_false]
  have hf : find1 l name = -1:=by unfold find1; rw [if_neg ha]
  go_enter Tryz.func112,Tryz.ntmps112
  go_wp2_with fail
  refine Calls.exts (find_any _ l name _ (writes_of_owns (ho.alloc _))) (fun wa ea=>?_)
  rw [hf]
  go_wp2_with fail
  refine Calls.exts (refuse_any _ _ _) (fun w1 e1=>?_)
  obtain ⟨c0,c1,f0,f1⟩:=box_of (heap_alloc_new w _) (ea.trans e1)
  have he : Ext w w1:=(((Ext.refl w).alloc _).trans ea).trans e1
  go_wp2
  try simp only [Exit.inBlock,Exit.then]
  refine bodyPost_ret (by simp [results,Tryz.results112,go_sem,c0,c1]; rfl) rfl ?_
  exact told_box (Nat.le_refl _) (owns_ext ho he) (ne_new' ho) (he.grownBy _) (fun w2 h2=>writes_of_owns h2)
 simp only [ha,if_true]
 have hf : find1 l name = (at1 l name : Int):=by unfold find1; rw [if_pos ha]
 generalize hA : at1 l name = A at *
 have HS : Hid (∀ wx,Ext w wx → Owned wx g l):=fun wx hx=>owns_ext ho hx
 go_enter Tryz.func112,Tryz.ntmps112
 go_wp2_with fail
 refine Calls.exts (find_any _ l name _ (writes_of_owns (ho.alloc _))) (fun wa ea=>?_)
 rw [hf]
 have hoa : Owned wa g l:=HS.out wa (((Ext.refl w).alloc _).trans ea)
 obtain ⟨k1,k2⟩:=owned_cells hoa i hi
 obtain ⟨k3,k4⟩:=owned_cells hoa A ha
 have f2 : wa.frozen? ⟨g,i * 2 + 1,none⟩ = false:=hoa.frozenAt _
 have f4 : wa.frozen? ⟨g,A * 2 + 1,none⟩ = false:=hoa.frozenAt _
 replace k2 : wa.cell? ⟨g,i * 2 + 1,none⟩ = some (I (num l i)):=k2
 replace k4 : wa.cell? ⟨g,A * 2 + 1,none⟩ = some (I (num l A)):=k4
 clear k1 k3
 have HW : Hid (∀ x y : Int,Owned (((wa.setCell ⟨g,i * 2 + 1,none⟩ (I x)).setCell ⟨g,A * 2 + 1,none⟩ (I y)).drew) g (put1 (put1 l i x) A y)):=fun x y =>
  owns_ext (owned_put1 (owned_put1 hoa i hi x) A (by rw [length_put1]; exact ha) y) (Ext.refl _).drew
 have HG : Hid (∀ x y : Value,wa.grownBy (((wa.setCell ⟨g,i * 2 + 1,none⟩ x).setCell ⟨g,A * 2 + 1,none⟩ y).drew) (some g)):=fun x y =>
  grown_drew (grown_trans (grown_setCell _ _ _ _) (grown_setCell _ _ _ _))
 have HB : Hid (∀ x y : Value,(((wa.setCell ⟨g,i * 2 + 1,none⟩ x).setCell ⟨g,A * 2 + 1,none⟩ y).drew).heap[w.heap.size]? = some (.cells #[I 0,I 0] 39)):=fun x y=>by
  show ((wa.setCell ⟨g,i * 2 + 1,none⟩ x).setCell ⟨g,A * 2 + 1,none⟩ y).heap[w.heap.size]? = _
  rw [Below.heap_setCell _ _ _ _ (fun e=>by simp only [] at e; omega),Below.heap_setCell _ _ _ _ (fun e=>by simp only [] at e; omega)]
  exact block_ext ea
 have HN : Hid (num (put1 (put1 l i (num l A)) A (num l i)) i = num l A):=by
  unfold Hid
  rw [num_put1 _ _ _ _ (by rw [length_put1]; exact ha),num_put1 _ _ _ _ hi,if_pos rfl]
  by_cases e : A = i
  ·rw [if_pos e,e]
  ·rw [if_neg e]
 generalize hm : num l i = m at *
 have HM : Hid (num l i = m):=hm
 clear hm
 generalize hn : num l A = n at *
 have HNA : Hid (num l A = n):=hn
 clear hn
 have hgw : w.grownBy wa (some g):=(((Ext.refl w).alloc _).trans ea).grownBy _
 by_cases hiA : i = A
 ·subst hiA
  have hmn : n = m:=by
   have:=k2.symm.trans k4
   simpa using this.symm
  subst hmn
  go_wp2_with fail
  go_region
  have hob:=HW.out n n
  have hgb:=HG.out (I n) (I n)
  have hbb:=HB.out (I n) (I n)
  have kb:=(owned_cells hob i (by rw [length_put1,length_put1]; exact hi)).2
  generalize ((wa.setCell ⟨g,i * 2 + 1,none⟩ (I n)).setCell ⟨g,i * 2 + 1,none⟩ (I n)).drew = wb at *
  replace kb : wb.cell? ⟨g,i * 2 + 1,none⟩ = some (I n):=by rw [kb]; exact congrArg (some ∘ I) HN.out
  clear k2 k4 f2 f4
  go_wp2_with fail
  refine Calls.exts (tell_any _ _ _) (fun w1 e1=>?_)
  obtain ⟨c0,c1,f0,f1⟩:=box_of hbb e1
  go_wp2
  try simp only [Exit.inBlock,Exit.then]
  refine bodyPost_ret (by simp [results,Tryz.results112,go_sem,c0,c1]; rfl) rfl ?_
  rw [HNA.out]
  exact told_box (r:=⟨0,n⟩) (Nat.le_refl _) (owns_ext hob e1) (ne_new' ho) (grown_trans (grown_trans hgw hgb) (e1.grownBy _)) (fun w2 h2=>by have:=writes_of_owns h2; rwa [length_put1,length_put1] at this)
 ·have d1 : ¬ (i * 2 + 1 = A * 2 + 1):=by omega
  have d2 : ¬ (A * 2 + 1 = i * 2 + 1):=by omega
  go_wp2_with fail
  go_region
  have hob:=HW.out n m
  have hgb:=HG.out (I n) (I m)
  have hbb:=HB.out (I n) (I m)
  have kb:=(owned_cells hob i (by rw [length_put1,length_put1]; exact hi)).2
  generalize ((wa.setCell ⟨g,i * 2 + 1,none⟩ (I n)).setCell ⟨g,A * 2 + 1,none⟩ (I m)).drew = wb at *
  replace kb : wb.cell? ⟨g,i * 2 + 1,none⟩ = some (I n):=by rw [kb]; exact congrArg (some ∘ I) HN.out
  clear k2 k4 f2 f4
  go_wp2_with fail
  refine Calls.exts (tell_any _ _ _) (fun w1 e1=>?_)
  obtain ⟨c0,c1,f0,f1⟩:=box_of hbb e1
  go_wp2
  try simp only [Exit.inBlock,Exit.then]
  refine bodyPost_ret (by simp [results,Tryz.results112,go_sem,c0,c1]; rfl) rfl ?_
  rw [HNA.out,HM.out]
  exact told_box (r:=⟨0,n⟩) (Nat.le_refl _) (owns_ext hob e1) (ne_new' ho) (grown_trans (grown_trans hgw hgb) (e1.grownBy _)) (fun w2 h2=>by have:=writes_of_owns h2; rwa [length_put1,length_put1] at this)

set_option maxHeartbeats 1000000 in
theorem put_any (l : List (Int × Int)) (g b1 b2 : Nat) (name n : Int) (w : World) (ho : Owned w g l) (hr : (l.length + 1) * 16 ≤ 140737488355328) (h1 : w.cell? ⟨b1,0,none⟩ = some (I name)) (hb1 : b1 < w.heap.size) (h2 : w.cell? ⟨b2,0,none⟩ = some (I n)) :
  Calls Tryz.prog 108 #[.slice (some ⟨g,0,none⟩) l.length l.length,.pointer (some ⟨b1,0,none⟩),.pointer (some ⟨b2,0,none⟩)] w fun e w' =>
   if at1 l name < l.length then Told w g (put1 l (at1 l name) n) ⟨0,num l (at1 l name)⟩ e w' else if 5 ≤ l.length then Told w g l ⟨9,0⟩ e w' else Told w g (l ++ [(name,n)]) ⟨0,0⟩ e w':=by
 have hg : g < w.heap.size:=(ho.lt g rfl).2
 obtain ⟨i0,hi0,hz0,hz1,hz2⟩:=info_parts Tryz.infoWrite2
 by_cases ha : at1 l name < l.length
 ·simp only [ha,if_true]
  have hf : find1 l name = (at1 l name : Int):=by unfold find1; rw [if_pos ha]
  generalize hA : at1 l name = A at *
  have HS : Hid (∀ wx,Ext w wx → Owned wx g l):=fun wx hx=>owns_ext ho hx
  go_enter Tryz.func108,Tryz.ntmps108
  go_wp2_with fail
  refine Calls.exts (find_any _ l name _ (writes_of_owns (ho.alloc _))) (fun wa ea=>?_)
  rw [hf]
  have hea : Ext w wa:=((Ext.refl w).alloc _).trans ea
  have hoa : Owned wa g l:=HS.out wa hea
  obtain ⟨_,k2⟩:=owned_cells hoa A ha
  have f2 : wa.frozen? ⟨g,A * 2 + 1,none⟩ = false:=hoa.frozenAt _
  replace k2 : wa.cell? ⟨g,A * 2 + 1,none⟩ = some (I (num l A)):=k2
  have g2:=hea.cell h2
  have hob:=owned_put1 hoa A ha n
  have hgb : w.grownBy _ (some g):=grown_trans (hea.grownBy (some g)) (grown_setCell wa g (A * 2 + 1) (I n))
  have hbb : (wa.setCell ⟨g,A * 2 + 1,none⟩ (I n)).heap[w.heap.size]? = some (.cells #[I 0,I 0] 39):=by
   rw [Below.heap_setCell _ _ _ _ (fun e=>by simp only [] at e; omega)]
   exact block_ext ea
  go_wp2_with fail
  refine Calls.exts (tell_any _ _ _) (fun w1 e1=>?_)
  obtain ⟨c0,c1,f0,f1⟩:=box_of hbb e1
  go_wp2
  try simp only [Exit.inBlock,Exit.then]
  refine bodyPost_ret (by simp [results,Tryz.results108,go_sem,c0,c1]; rfl) rfl ?_
  exact told_box (Nat.le_refl _) (owns_ext hob e1) (ne_new' ho) (grown_trans hgb (e1.grownBy _)) (fun w2 h2=>by have:=writes_of_owns h2; rwa [length_put1] at this)
 simp only [ha,if_false]
 have hf : find1 l name = -1:=by unfold find1; rw [if_neg ha]
 by_cases h5 : 5 ≤ l.length
 ·simp only [h5,if_true]
  have h5' : (5 : Int) ≤ (l.length : Int):=by omega
  go_enter Tryz.func108,Tryz.ntmps108
  go_wp2_with fail
  refine Calls.exts (find_any _ l name _ (writes_of_owns (ho.alloc _))) (fun wa ea=>?_)
  rw [hf]
  go_wp2_with fail
  refine Calls.exts (refuse_any _ _ _) (fun w1 e1=>?_)
  obtain ⟨c0,c1,f0,f1⟩:=box_of (heap_alloc_new w _) (ea.trans e1)
  have he : Ext w w1:=(((Ext.refl w).alloc _).trans ea).trans e1
  go_wp2
  try simp only [Exit.inBlock,Exit.then]
  refine bodyPost_ret (by simp [results,Tryz.results108,go_sem,c0,c1]; rfl) rfl ?_
  exact told_box (Nat.le_refl _) (owns_ext ho he) (ne_new' ho) (he.grownBy _) (fun w2 h2=>writes_of_owns h2)
 ·simp only [h5,if_false]
  have h5' : (l.length : Int) < 5:=by omega
  go_enter Tryz.func108,Tryz.ntmps108
  go_wp2_with fail
  refine Calls.exts (find_any _ l name _ (writes_of_owns (ho.alloc _))) (fun wa ea=>?_)
  rw [hf]
  have hea : Ext w wa:=((Ext.refl w).alloc _).trans ea
  have g1:=hea.cell h1
  have g2:=hea.cell h2
  have hoa : Owned wa g l:=owns_ext ho hea
  have hba:=block_ext ea
  have hsa : g ≤ wa.heap.size:=Nat.le_trans (Nat.le_of_lt hg) hea.size
  have hbs : w.heap.size < wa.heap.size:=(Array.getElem?_eq_some_iff.1 hba).1
  go_wp2_with (at_builtin; refine wpList_append_row _ rfl _ _ 27 rfl g 79 i0 (.agg #[.int .i64 0,.int .i64 0]) 2 16 Tryz.underlying27 hi0 hz0 hz1 hz2 rfl (by decide) _ _ _ rfl (hoa.alloc _) _ rfl 1 [I name,I n] (writes_lit (l:=[(name,n)]) _ _ 1 rfl rfl (by decide)) (cells2_one [(name,n)]) (by omega) (by decide) (by simp; omega) ?_; intro v' w3 ho3 hg3)
  have hb3 : w3.heap[w.heap.size]? = some (.cells #[I 0,I 0] 39):=by
   have hg4 : (wa.alloc (.cells #[I name,I n] 79)).grownBy w3 (some g):=hg3
   rw [hg4.block w.heap.size (by simp; omega) (fun e=>by have e2 : w.heap.size = g:=Option.some.inj e; omega),heap_alloc_old _ _ hbs]
   exact hba
  have hgw : w.grownBy w3 (some g):=grown_trans ((hea.alloc _).grownBy _) hg3
  refine Calls.exts (tell_any _ _ _) (fun w1 e1=>?_)
  obtain ⟨c0,c1,f0,f1⟩:=box_of hb3 e1
  go_wp2
  try simp only [Exit.inBlock,Exit.then]
  refine bodyPost_ret (by simp [results,Tryz.results108,go_sem,c0,c1]; rfl) rfl ?_
  rw [show cells2 l ++ [I name,I n] = cells2 (l ++ [(name,n)]) from (cells2_append l [(name,n)]).symm] at ho3
  exact told_box (Nat.le_refl _) (owns_ext ho3 e1) (own_ne ho3 hb3 (by decide)) (grown_trans hgw (e1.grownBy _)) (fun w2 h2=>writes_of_owns h2)

end Go.Proofs.YtdmipnnfooleladGreat

namespace Go.Proofs.YtdmipnnfooleladGreat
open Go.RowKit Go.Mk
set_option maxRecDepth 100000

/-- A function with a body is entered. -/
def Enters (F : FuncId) : Prop:=∀ (args : Array Value) (w : World),(callFunc F args).run Tryz.prog w = .ok (.enter F args) w
theorem enters_get : Enters 100:=fun _ _=>by kernel_rfl
theorem enters_drop : Enters 101:=fun _ _=>by kernel_rfl
theorem enters_add : Enters 111:=fun _ _=>by kernel_rfl
theorem enters_swap : Enters 112:=fun _ _=>by kernel_rfl
theorem enters_there : Enters 110:=fun _ _=>by kernel_rfl
theorem enters_put : Enters 108:=fun _ _=>by kernel_rfl
theorem enters_count : Enters 97:=fun _ _=>by kernel_rfl
set_option maxHeartbeats 400000 in
/-- there: a name that is not there is told; else it goes on with the place. -/
theorem there_any (F : FuncId) (caps : Array Value) (l : List (Int × Int)) (g b1 b2 : Nat) (name : Int) (w : World) (l' : List (Int × Int)) (r : Rp) (ho : Owned w g l) (h1 : w.cell? ⟨b1,0,none⟩ = some (I name)) (hb1 : b1 < w.heap.size)
  (h2 : w.cell? ⟨b2,0,none⟩ = some (.func (.func F) #[] caps))
  (hE : Enters F) (hF : at1 l name < l.length → ∀ wa,Ext w wa → Calls Tryz.prog F (#[.slice (some ⟨g,0,none⟩) l.length l.length,I (at1 l name)] ++ caps) wa fun e w'=>Told wa g l' r e w') :
  Calls Tryz.prog 110 #[.slice (some ⟨g,0,none⟩) l.length l.length,.pointer (some ⟨b1,0,none⟩),.pointer (some ⟨b2,0,none⟩)] w fun e w' =>
   if at1 l name < l.length then Told w g l' r e w' else Told w g l ⟨6,0⟩ e w':=by
 have hg : g < w.heap.size:=(ho.lt g rfl).2
 by_cases ha : at1 l name < l.length
 case neg =>
  simp only [ha,if_false]
  have hf : find1 l name = -1:=by unfold find1; rw [if_neg ha]
  clear hF
  go_enter Tryz.func110,Tryz.ntmps110
  go_wp2_with fail
  refine Calls.exts (find_any _ l name _ (writes_of_owns (ho.alloc _))) (fun wa ea=>?_)
  rw [hf]
  go_wp2_with fail
  refine Calls.exts (refuse_any _ _ _) (fun w1 e1=>?_)
  obtain ⟨c0,c1,f0,f1⟩:=box_of (heap_alloc_new w _) (ea.trans e1)
  have he : Ext w w1:=(((Ext.refl w).alloc _).trans ea).trans e1
  go_wp2
  try simp only [Exit.inBlock,Exit.then]
  refine bodyPost_ret (by simp [results,Tryz.results110,go_sem,c0,c1]; rfl) rfl ?_
  exact told_box (Nat.le_refl _) (owns_ext ho he) (ne_new' ho) (he.grownBy _) (fun w2 h2=>writes_of_owns h2)
 simp only [ha,if_true]
 have hf : find1 l name = (at1 l name : Int):=by unfold find1; rw [if_pos ha]
 have HF : Hid (∀ wa,Ext w wa → Calls Tryz.prog F (#[.slice (some ⟨g,0,none⟩) l.length l.length,I (at1 l name)] ++ caps) wa fun e w'=>Told wa g l' r e w'):=hF ha
 clear hF
 generalize hA : at1 l name = A at *
 go_enter Tryz.func110,Tryz.ntmps110
 go_wp2_with fail
 refine Calls.exts (find_any _ l name _ (writes_of_owns (ho.alloc _))) (fun wa ea=>?_)
 rw [hf]
 have hea : Ext w wa:=((Ext.refl w).alloc _).trans ea
 have g2:=hea.cell h2
 have hE2:=hE
 unfold Enters at hE2
 go_wp2_with fail
 refine (HF.out wa hea).mono ?_
 rintro e w1 ⟨u,v,n,lo,rfl,hov,hu,hgr⟩
 have hb1 : w1.heap[w.heap.size]? = some (.cells #[I 0,I 0] 39):=by
  rw [hgr.block w.heap.size (Array.getElem?_eq_some_iff.1 (block_ext ea)).1 (fun e=>by have e2 : w.heap.size = g:=Option.some.inj e; omega)]
  exact block_ext ea
 obtain ⟨c0,c1,f0,f1⟩:=box_of hb1 (Ext.refl w1)
 clear hE2
 go_wp2
 try simp only [Exit.inBlock,Exit.then]
 refine bodyPost_ret (by simp [results,Tryz.results110,go_sem,c0,c1]; rfl) rfl ?_
 exact told_box (Nat.le_refl _) hov (own_ne hov hb1 (by decide)) (grown_trans (hea.grownBy _) hgr) hu

end Go.Proofs.YtdmipnnfooleladGreat

namespace Go.Proofs.YtdmipnnfooleladGreat
open Go.RowKit Go.Mk
set_option maxRecDepth 100000

/-- A function value that does what the call asks with names of one's own. -/
def DeedP (c : Cl) (v : Value) (w : World) : Prop:=∃ F caps,v = .func (.func F) #[] caps ∧ Enters F ∧ ∀ l g wa,Ext w wa → Owned wa g l → Okw l → Calls Tryz.prog F (#[.slice (some ⟨g,0,none⟩) l.length l.length] ++ caps) wa fun e w'=>Told wa g (doCl l c).1 (doCl l c).2 e w'

/-- .. where the name is there, at a place that is handed in. -/
def TurnP (c : Cl) (v : Value) (w : World) : Prop:=∃ F caps,v = .func (.func F) #[] caps ∧ Enters F ∧ ∀ l g wa,Ext w wa → Owned wa g l → Okw l → at1 l c.name < l.length → Calls Tryz.prog F (#[.slice (some ⟨g,0,none⟩) l.length l.length,I (at1 l c.name)] ++ caps) wa fun e w'=>Told wa g (doCl l c).1 (doCl l c).2 e w'

theorem monoDeed (c : Cl) : ∀ v,MonoP (DeedP c v):=fun _ _ _ he ⟨F,caps,h1,h2,h3⟩=>⟨F,caps,h1,h2,fun l g wa hx=>h3 l g wa (he.trans hx)⟩

theorem monoTurn (c : Cl) : ∀ v,MonoP (TurnP c v):=fun _ _ _ he ⟨F,caps,h1,h2,h3⟩=>⟨F,caps,h1,h2,fun l g wa hx=>h3 l g wa (he.trans hx)⟩

theorem turn_get (a o n : Int) (w : World) : TurnP ⟨2,a,o,n⟩ (.func (.func 100) #[] #[]) w :=
 ⟨_,_,rfl,enters_get,fun l g wa _ ho _ ha=>(get_any l g _ wa ho ha).mono fun e w' h=>by rw [doCl_get,if_neg (by simpa using ha)]; exact h⟩

theorem turn_drop (a o n : Int) (w : World) : TurnP ⟨3,a,o,n⟩ (.func (.func 101) #[] #[]) w :=
 ⟨_,_,rfl,enters_drop,fun l g wa _ ho hk ha=>(drop_any l g _ wa ho ha (by have:=hk.len; omega)).mono fun e w' h=>by rw [doCl_drop,if_neg (by simpa using ha)]; exact h⟩

theorem deed_count (a o n : Int) (w : World) : DeedP ⟨5,a,o,n⟩ (.func (.func 97) #[] #[]) w :=
 ⟨_,_,rfl,enters_count,fun l g wa _ ho _=>count_any l g wa ho⟩

set_option maxHeartbeats 400000 in
theorem mkput_any (a o n : Int) (w : World) : Calls Tryz.prog 98 #[I a,I n] w fun e w'=>∃ r,e = .returned r ∧ Ext w w' ∧ DeedP ⟨1,a,o,n⟩ r w':=by
 have hmf:=func_mk
 go_enter Tryz.func98,Tryz.ntmps98
 go_wp2
 go_ret
 refine ⟨_,rfl,((Ext.refl w).alloc _).alloc _,_,_,rfl,enters_put,fun l g wa hx ho hk=>?_⟩
 have q1:=hx.cell (p:=⟨w.heap.size,0,none⟩) (v:=I a) (by simp)
 have q2:=hx.cell (p:=⟨w.heap.size + 1,0,none⟩) (v:=I n) (by simp)
 refine (put_any l g _ _ a n wa ho (by have:=hk.len; omega) q1 (cell_lt q1) q2).mono fun e w' h=>?_
 rw [doCl_put]
 by_cases ha : at1 l a < l.length
 ·rw [if_pos ha] at h ⊢; exact h
 ·rw [if_neg ha] at h ⊢
  by_cases h5 : 5 ≤ l.length
  ·rw [if_pos h5] at h ⊢; exact h
  ·rw [if_neg h5] at h ⊢; exact h

set_option maxHeartbeats 400000 in
theorem mkthere_any (c : Cl) (v : Value) (w : World) (hv : TurnP c v w) (hno : ∀ l,¬ at1 l c.name < l.length → doCl l c = (l,⟨6,0⟩)) : Calls Tryz.prog 99 #[I c.name,v] w fun e w'=>∃ r,e = .returned r ∧ Ext w w' ∧ DeedP c r w':=by
 have hmf:=func_mk
 obtain ⟨F,caps,rfl,hE,hF⟩:=hv
 have HF : Hid _:=hF
 have HE : Hid (Enters F):=hE
 clear hF hE
 go_enter Tryz.func99,Tryz.ntmps99
 go_wp2
 go_ret
 refine ⟨_,rfl,((Ext.refl w).alloc _).alloc _,_,_,rfl,enters_there,fun l g wa hx ho hk=>?_⟩
 have hw : Ext w wa:=(((Ext.refl w).alloc _).alloc _).trans hx
 have q1:=hx.cell (p:=⟨w.heap.size,0,none⟩) (v:=I c.name) (by simp)
 have q2:=hx.cell (p:=⟨w.heap.size + 1,0,none⟩) (v:=.func (.func F) #[] caps) (by simp)
 refine (there_any F caps l g _ _ c.name wa (doCl l c).1 (doCl l c).2 ho q1 (cell_lt q1) q2 HE.out (fun ha wb hb=>HF.out l g wb (hw.trans hb) (owns_ext ho hb) hk ha)).mono fun e w' h=>?_
 by_cases ha : at1 l c.name < l.length
 ·rw [if_pos ha] at h; exact h
 ·rw [if_neg ha] at h; rw [hno l ha]; exact h

set_option maxHeartbeats 400000 in
theorem mkadd_any (a o n : Int) (w : World) (hn : -1073741824 ≤ n ∧ n ≤ 1073741824) : Calls Tryz.prog 102 #[I n] w fun e w'=>∃ r,e = .returned r ∧ Ext w w' ∧ TurnP ⟨4,a,o,n⟩ r w':=by
 have hmf:=func_mk
 go_enter Tryz.func102,Tryz.ntmps102
 go_wp2
 go_ret
 refine ⟨_,rfl,(Ext.refl w).alloc _,_,_,rfl,enters_add,fun l g wa hx ho hk ha=>?_⟩
 have q1:=hx.cell (p:=⟨w.heap.size,0,none⟩) (v:=I n) (by simp)
 refine (add_any l g _ _ n wa ho ha q1 (cell_lt q1) hn (hk.at ha).2.2).mono fun e w' h=>?_
 rw [doCl_add,if_neg (by simpa using ha)]
 by_cases hs : -1073741824 ≤ num l (at1 l a) + n ∧ num l (at1 l a) + n ≤ 1073741824
 ·rw [if_pos hs] at h
  rw [if_neg (by simpa using hs)]; exact h
 ·rw [if_neg hs] at h
  rw [if_pos hs]; exact h

set_option maxHeartbeats 400000 in
theorem mkswap_any (a o n : Int) (w : World) : Calls Tryz.prog 103 #[I o] w fun e w'=>∃ r,e = .returned r ∧ Ext w w' ∧ TurnP ⟨6,a,o,n⟩ r w':=by
 have hmf:=func_mk
 go_enter Tryz.func103,Tryz.ntmps103
 go_wp2
 go_ret
 refine ⟨_,rfl,(Ext.refl w).alloc _,_,_,rfl,enters_swap,fun l g wa hx ho hk ha=>?_⟩
 have q1:=hx.cell (p:=⟨w.heap.size,0,none⟩) (v:=I o) (by simp)
 refine (swap_any l g _ _ o wa ho ha q1 (cell_lt q1)).mono fun e w' h=>?_
 rw [doCl_swap',if_neg (by simpa using ha)]
 by_cases hs : at1 l o < l.length
 ·rw [if_pos hs] at h
  rw [if_neg (by simpa using hs)]; exact h
 ·rw [if_neg hs] at h
  rw [if_pos hs]; exact h

end Go.Proofs.YtdmipnnfooleladGreat

namespace Go.Proofs.YtdmipnnfooleladGreat
open Go.RowKit Go.Mk
set_option maxRecDepth 100000

set_option maxHeartbeats 1000000 in
theorem deedOf_any (k a o n : Int) (w : World) (hc : wrongCl ⟨k,a,o,n⟩ = 0) : Calls Tryz.prog 84 #[.agg #[I k,I a,I o,I n]] w fun e w'=>∃ r,e = .returned r ∧ Ext w w' ∧ DeedP ⟨k,a,o,n⟩ r w':=by
 obtain ⟨hk,hn⟩:=wrongCl_zero hc
 have HN : Hid (k = 1 ∨ k = 4 → -1073741824 ≤ n ∧ n ≤ 1073741824):=hn
 clear hc hn
 have he0 : Ext w (w.alloc (.cells #[I k,I a,I o,I n] 34)):=(Ext.refl w).alloc _
 rcases hk with rfl | rfl | rfl | rfl | rfl | rfl
 ·go_enter Tryz.func84,Tryz.ntmps84
  go_wp2_with fail
  refine (mkput_any a o n _).mono ?_
  rintro e w1 ⟨r,rfl,he,hd⟩
  go_wp2
  go_ret
  exact ⟨_,rfl,he0.trans he,hd⟩
 ·go_enter Tryz.func84,Tryz.ntmps84
  go_wp2_with fail
  refine (mkthere_any ⟨2,a,o,n⟩ _ _ (turn_get a o n _) (fun l ha=>by rw [doCl_get,if_pos ha])).mono ?_
  rintro e w1 ⟨r,rfl,he,hd⟩
  go_wp2
  go_ret
  exact ⟨_,rfl,he0.trans he,hd⟩
 ·go_enter Tryz.func84,Tryz.ntmps84
  go_wp2_with fail
  refine (mkthere_any ⟨3,a,o,n⟩ _ _ (turn_drop a o n _) (fun l ha=>by rw [doCl_drop,if_pos ha])).mono ?_
  rintro e w1 ⟨r,rfl,he,hd⟩
  go_wp2
  go_ret
  exact ⟨_,rfl,he0.trans he,hd⟩
 ·have q1 : (w.alloc (.cells #[I 4,I a,I o,I n] 34)).cell? ⟨w.heap.size,1,none⟩ = some (I a):=by simp
  have q3 : (w.alloc (.cells #[I 4,I a,I o,I n] 34)).cell? ⟨w.heap.size,3,none⟩ = some (I n):=by simp
  have HQ1 : Hid _:=q1
  have HQ3 : Hid _:=q3
  clear q1 q3
  go_enter Tryz.func84,Tryz.ntmps84
  go_wp2_with fail
  refine wp_region_mono [none,none,none,none,some (.inr (TurnP ⟨4,a,o,n⟩)),some (.inr (DeedP ⟨4,a,o,n⟩)),none] (by kernel_rfl) (by kernel_rfl) ?_ ?_
  ·exact ⟨trivial,trivial,trivial,trivial,monoTurn _,monoDeed _,trivial,trivial⟩
  iterate 1 (refine wpM_p (fun K hK=>?_); go_simp; refine hK _ ?_; clear hK K)
  refine wpM_q (I a) rfl (fun w' hw'=>by have t1:=hw'.cell HQ1.out; go_simp) ?_
  iterate 1 (refine wpM_p (fun K hK=>?_); go_simp; refine hK _ ?_; clear hK K)
  refine wpM_q (I n) rfl (fun w' hw'=>by have t1:=hw'.cell HQ3.out; go_simp) ?_
  refine wpM_l _ rfl (fun w' hw' _=>?_) (fun v30=>?_)
  ·have hg:=mkadd_any a o n w' (HN.out (by simp))
   unfold makes
   go_simp
   exact ⟨Ext.refl _,hg⟩
  refine wpM_l _ rfl (fun w' hw' hk=>?_) (fun v31=>?_)
  ·have h7 : TurnP ⟨4,a,o,n⟩ v30 w':=hk 30 (by decide)
   have hg:=mkthere_any ⟨4,a,o,n⟩ v30 w' h7 (fun l ha=>by rw [doCl_add,if_pos ha])
   clear hk h7
   unfold makes
   go_simp
   exact ⟨Ext.refl _,hg⟩
  iterate 1 (refine wpM_p (fun K hK=>?_); go_simp; refine hK _ ?_; clear hK K)
  refine wpM_nil ?_
  intro w2 he2 hF
  have hd : DeedP ⟨4,a,o,n⟩ v31 w2:=hF 31
  go_wp2
  go_ret
  exact ⟨_,rfl,he0.trans he2,hd⟩
 ·go_enter Tryz.func84,Tryz.ntmps84
  go_wp2
  go_ret
  exact ⟨_,rfl,he0,deed_count a o n _⟩
 ·have q1 : (w.alloc (.cells #[I 6,I a,I o,I n] 34)).cell? ⟨w.heap.size,1,none⟩ = some (I a):=by simp
  have q3 : (w.alloc (.cells #[I 6,I a,I o,I n] 34)).cell? ⟨w.heap.size,2,none⟩ = some (I o):=by simp
  have HQ1 : Hid _:=q1
  have HQ3 : Hid _:=q3
  clear q1 q3
  go_enter Tryz.func84,Tryz.ntmps84
  go_wp2_with fail
  refine wp_region_mono [none,none,none,none,some (.inr (TurnP ⟨6,a,o,n⟩)),some (.inr (DeedP ⟨6,a,o,n⟩)),none] (by kernel_rfl) (by kernel_rfl) ?_ ?_
  ·exact ⟨trivial,trivial,trivial,trivial,monoTurn _,monoDeed _,trivial,trivial⟩
  iterate 1 (refine wpM_p (fun K hK=>?_); go_simp; refine hK _ ?_; clear hK K)
  refine wpM_q (I a) rfl (fun w' hw'=>by have t1:=hw'.cell HQ1.out; go_simp) ?_
  iterate 1 (refine wpM_p (fun K hK=>?_); go_simp; refine hK _ ?_; clear hK K)
  refine wpM_q (I o) rfl (fun w' hw'=>by have t1:=hw'.cell HQ3.out; go_simp) ?_
  refine wpM_l _ rfl (fun w' hw' _=>?_) (fun v30=>?_)
  ·have hg:=mkswap_any a o n w'
   unfold makes
   go_simp
   exact ⟨Ext.refl _,hg⟩
  refine wpM_l _ rfl (fun w' hw' hk=>?_) (fun v31=>?_)
  ·have h7 : TurnP ⟨6,a,o,n⟩ v30 w':=hk 38 (by decide)
   have hg:=mkthere_any ⟨6,a,o,n⟩ v30 w' h7 (fun l ha=>by rw [doCl_swap',if_pos ha])
   clear hk h7
   unfold makes
   go_simp
   exact ⟨Ext.refl _,hg⟩
  iterate 1 (refine wpM_p (fun K hK=>?_); go_simp; refine hK _ ?_; clear hK K)
  refine wpM_nil ?_
  intro w2 he2 hF
  have hd : DeedP ⟨6,a,o,n⟩ v31 w2:=hF 39
  go_wp2
  go_ret
  exact ⟨_,rfl,he0.trans he2,hd⟩

/-- What a call of Do hands back. -/
def Does (base : Nat) (l : List (Int × Int)) (c : Cl) (r : Value) (w : World) : Prop:=∃ u,r = .tuple #[u,(doCl l c).2.val] ∧ Has base w u (doCl l c).1

set_option maxHeartbeats 400000 in
theorem DoW_any (v : Value) (l : List (Int × Int)) (k a o n : Int) (w : World) (hv : Writes w v l) (hl : Okw l) (hc : wrongCl ⟨k,a,o,n⟩ = 0) : Calls Tryz.prog 74 #[v,.agg #[I k,I a,I o,I n]] w fun e w'=>∃ r,e = .returned r ∧ Ext w w' ∧ Does w.heap.size l ⟨k,a,o,n⟩ r w':=by
 have he0 : Ext w ((w.alloc (.cells #[I k,I a,I o,I n] 34)).alloc (.cells #[I 0,I 0] 39)):=((Ext.refl w).alloc _).alloc _
 have hbx : ((w.alloc (.cells #[I k,I a,I o,I n] 34)).alloc (.cells #[I 0,I 0] 39)).heap[w.heap.size + 1]? = some (.cells #[I 0,I 0] 39):=by
  have:=heap_alloc_new (w.alloc (.cells #[I k,I a,I o,I n] 34)) (.cells #[I 0,I 0] 39)
  simpa using this
 have HBX : Hid _:=hbx
 clear hbx
 go_enter Tryz.func74,Tryz.ntmps74
 go_wp2_with fail
 refine (deedOf_any k a o n _ hc).mono ?_
 rintro e w1 ⟨r,rfl,e1,F,caps,rfl,hE,hF⟩
 have HF : Hid _:=hF
 clear hF
 unfold Enters at hE
 have hw1 : Ext w w1:=he0.trans e1
 go_wp2_with fail
 refine (mown_any v l w1 (hv.ext hw1) (by have:=hl.len; omega)).mono ?_
 rintro e w2 ⟨rfl,ho,e2⟩
 have hs1 : w.heap.size + 1 < w1.heap.size:=by have:=e1.size; simp at this; omega
 generalize hgs : w1.heap.size = g at *
 go_wp2_with fail
 refine (HF.out l g w2 e2 ho hl).mono ?_
 rintro e w3 ⟨u,x,m,lo,rfl,hov,hu,hgr⟩
 have hb3 : w3.heap[w.heap.size + 1]? = some (.cells #[I 0,I 0] 39):=by
  rw [hgr.block (w.heap.size + 1) (by have:=e2.size; omega) (fun e=>by have e2 : w.heap.size + 1 = g:=Option.some.inj e; omega),e2.block _ (by omega),e1.block _ (by simp)]
  exact HBX.out
 obtain ⟨c0,c1,f0,f1⟩:=box_of hb3 (Ext.refl w3)
 have hw3 : Ext w w3:=(hw1.trans e2).grown hgr (fun k hk=>by cases hk; omega)
 clear hE
 generalize hD : doCl l ⟨k,a,o,n⟩ = D at *
 have HD : Hid (doCl l ⟨k,a,o,n⟩ = D):=hD
 clear hD
 obtain ⟨D1,D2,D3⟩:=D
 go_wp2
 try simp only [Exit.inBlock,Exit.then]
 refine bodyPost_ret (by simp [results,Tryz.results74,go_sem,c0,c1]; rfl) rfl ?_
 have hne:=own_ne hov hb3 (by decide)
 refine ⟨_,rfl,(hw3.setCell (Nat.le_succ _) _).setCell (Nat.le_succ _) _,u,?_,?_⟩
 ·rw [HD.out]
 ·rw [HD.out]; exact Has.low ⟨x,m,lo,owns_setCell (owns_setCell hov hne _ _) hne _ _,hu⟩ (by omega)

end Go.Proofs.YtdmipnnfooleladGreat

namespace Go.Proofs.YtdmipnnfooleladGreat
open Go.RowKit Go.Mk
set_option maxRecDepth 100000

end Go.Proofs.YtdmipnnfooleladGreat

namespace Go.Proofs.YtdmipnnfooleladGreat
open Go.RowKit Go.Mk
set_option maxRecDepth 100000

set_option maxHeartbeats 1000000 in
theorem OfW_any (v : Value) (xs : List Int) (w : World) (hv : Ints w v xs) (hw : xs.length = 11 ∧ 0 ≤ xs.getD 0 0 ∧ xs.getD 0 0 ≤ 5) :
  Calls Tryz.prog 75 #[v] w fun e w'=>∃ r,e = .returned r ∧ Ext w w' ∧ Writes w' r (ofCells xs (xs.getD 0 0).toNat):=by
 obtain ⟨hl,x0,x5⟩:=id hw
 obtain ⟨i0,hi,hz0,hz1,hz2⟩:=info_parts Tryz.infoWrite2
 have he : entriesOf xs = xs.getD 0 0:=by unfold entriesOf; rw [if_neg (by omega)]; omega
 have H3 : Hid (∀ k,k < 11 → ∃ ao cap,v = .slice ao 11 cap ∧ 11 ≤ cap ∧ cap ≤ maxLen ∧ ∃ b off,ao = some ⟨b,off,none⟩ ∧ w.cell? ⟨b,off + k,none⟩ = some (I (xs.getD k 0))):=fun k hk=>by
  obtain ⟨ao,cap,h1,h2,h3,h4⟩:=hv.form
  rw [hl] at h1 h2 h4
  exact ⟨ao,cap,h1,h2,h3,h4 k hk⟩
 obtain ⟨ao,cap,rfl,hcap,hm,b,off,rfl,_⟩:=H3.out 0 (by omega)
 have HC : Hid (∀ k,k < 11 → w.cell? ⟨b,off + k,none⟩ = some (I (xs.getD k 0))):=fun k hk=>by
  obtain ⟨ao,cap',h1,_,_,b',off',h2,h3⟩:=H3.out k hk
  rw [h2] at h1
  simp only [Value.slice.injEq,Option.some.injEq,Addr.mk.injEq,and_true] at h1
  obtain ⟨⟨rfl,rfl⟩,_,rfl⟩:=h1
  exact h3
 clear H3
 unfold maxLen at hm
 generalize hX : xs.getD 0 0 = x at *
 clear hX hw hl
 go_enter Tryz.func75,Tryz.ntmps75
 go_wp2_with fail
 refine Calls.same (entries_any _ xs _ hv) ?_
 rw [he]
 clear he hv
 go_wp2_with fail
 go_loopw [3,7] (fun o i wr=>∃ k : Nat,(k : Int) ≤ x ∧ i = I k ∧ wr.ownsRow w.heap.size 79 2 o k (cells2 (ofCells xs k)) ∧ Ext w wr) (fun _ i _=>x.toNat - (intOf i).toNat)
 case atStart=>exact ⟨0,by omega,rfl,World.ownsRow_nil _ _ _ _,Ext.refl w⟩
 case round =>
  obtain ⟨k,hk,rfl,ho,he⟩:=hrel
  by_cases hlt : (k : Int) < x
  ·have c1:=he.cell (HC.out (1 + 2 * k) (by omega))
   have c2:=he.cell (HC.out (1 + 2 * k + 1) (by omega))
   have HS : Hid (ofCells xs (k + 1) = ofCells xs k ++ [(xs.getD (1 + 2 * k) 0,xs.getD (1 + 2 * k + 1) 0)]):=ofCells_succ xs k
   generalize xs.getD (1 + 2 * k) 0 = p at *
   generalize xs.getD (1 + 2 * k + 1) 0 = q at *
   have a1 : (0 : Int) ≤ 1 + 2 * (k : Int):=by omega
   have a2 : 1 + 2 * (k : Int) < 11:=by omega
   have a3 : (1 + 2 * (k : Int)).toNat = 1 + 2 * k:=by omega
   have a4 : (0 : Int) ≤ 1 + 2 * (k : Int) + 1:=by omega
   have a5 : 1 + 2 * (k : Int) + 1 < 11:=by omega
   have a6 : (1 + 2 * (k : Int) + 1).toNat = 1 + 2 * k + 1:=by omega
   go_wp2_with fail
   refine wp_region_mono_tail 13 [none,none,none,some (.inl (I (1 + 2 * (k : Int)))),none,none,none,none,some (.inl (I (1 + 2 * (k : Int) + 1))),none,none,none,some (.inr fun v w=>Writes w v [(p,q)])] (by kernel_rfl) (by kernel_rfl) ?_ ?_
   ·exact ⟨trivial,trivial,trivial,trivial,trivial,trivial,trivial,trivial,trivial,trivial,trivial,trivial,monoWrites _,trivial⟩
   iterate 3 (refine wpM_p (fun K hK=>?_); go_simp; refine hK _ ?_; clear hK K)
   refine wpM_x _ rfl (fun w' hw' _=>?_) ?_
   ·have hg:=gives_same (nameCell_any k w' (by omega) (by omega))
    unfold makes
    go_simp
    exact ⟨Ext.refl _,hg⟩
   iterate 1 (refine wpM_p (fun K hK=>?_); go_simp; refine hK _ ?_; clear hK K)
   refine wpM_q (I p) rfl (fun w' hw'=>by have:=hw'.cell c1; go_simp) ?_
   iterate 2 (refine wpM_p (fun K hK=>?_); go_simp; refine hK _ ?_; clear hK K)
   refine wpM_x _ rfl (fun w' hw' _=>?_) ?_
   ·have hg:=gives_same (numberCell_any k w' (by omega) (by omega))
    unfold makes
    go_simp
    exact ⟨Ext.refl _,hg⟩
   iterate 1 (refine wpM_p (fun K hK=>?_); go_simp; refine hK _ ?_; clear hK K)
   refine wpM_q (I q) rfl (fun w' hw'=>by have:=hw'.cell c2; go_simp) ?_
   iterate 1 (refine wpM_p (fun K hK=>?_); go_simp; refine hK _ ?_; clear hK K)
   refine wpM_l _ rfl (fun w' hw' _=>?_) (fun v22=>?_)
   ·unfold makes
    go_simp
    exact ⟨(Ext.refl _).alloc _,writes_lit _ _ _ 1 rfl rfl (by decide)⟩
   refine wpM_nil ?_
   intro w2 he2 hF
   have h22 : Writes w2 v22 [(p,q)]:=hF 22
   clear hF c1 c2
   refine wpList_append_row _ rfl (.tmp 10) (.tmp 22) 27 rfl w.heap.size 79 i0 _ 2 16 Tryz.underlying27 hi hz0 hz1 hz2 rfl (by decide) u3 k (cells2 (ofCells xs k)) rfl ?_ v22 rfl 1 _ h22 (cells2_one _) (by omega) (by decide) ?_ ?_
   ·exact owns_ext ho he2
   ·exact Nat.le_trans he.size he2.size
   intro o' w3 ho3 hg3
   have he4 : Ext w w3:=(he.trans he2).grown hg3 (fun j hj=>(ho.lt j hj).1)
   clear hg3 he2 h22
   go_wp2
   go_roundw
   case rel =>
    refine ⟨k + 1,by omega,by go_num,?_,he4⟩
    rw [HS.out,cells2_append]
    exact ho3
   case measure=>simp [intOf]; omega
  ·go_wp2
   go_ret
   refine ⟨_,rfl,he,?_⟩
   rw [show x.toNat = k by omega]
   exact writes_of_owns ho
end Go.Proofs.YtdmipnnfooleladGreat

namespace Go.Proofs.YtdmipnnfooleladGreat
open Go.RowKit Go.Mk
set_option maxRecDepth 100000

theorem wset2 {w : World} {b : Nat} {t : TypeId} {p q : Value} (h : w.heap[b]? = some (.cells #[p,q] t (0,0))) (u v : Value) : ((w.setCell ⟨b,0,none⟩ u).setCell ⟨b,1,none⟩ v).heap[b]? = some (.cells #[u,v] t (0,0)):=by
 have h1:=heap_setCell_same _ _ 0 _ _ u h
 have h2:=heap_setCell_same _ _ 1 _ _ v h1
 simpa using h2

theorem phas_lit {w : World} (l : List (Int × Int)) (cs : Array Value) (n : Nat) (hc : cs.toList = cells2 l) (hn : l.length = n) (hm : n ≤ maxLen) (b : Nat) (hb : b ≤ w.heap.size) : Has b (w.alloc (.cells cs 79)) (.slice (some ⟨w.heap.size,0,none⟩) n n) l:=by
 subst hn
 have:=World.ownsRow_lit (base:=b) (e:=79) (size:=2) w cs l.length hb hm (by rw [← Array.length_toList,hc,length_cells2])
 rw [hc] at this
 exact ⟨_,_,l,this,fun w2 h2=>writes_of_owns h2⟩

set_option maxHeartbeats 400000 in
theorem pcount_any (v : Value) (l : List (Int × Int)) (w : World) (hv : Writes w v l) :
  Calls Tryz.prog 91 #[v] w fun e w'=>e = .returned (.agg #[I 0,I (l.length : Int)]) ∧ Ext w w':=by
 obtain ⟨ao,cap,rfl,h1,h2,-⟩:=hv.form
 unfold maxLen at h2
 clear hv
 have c0 : (w.alloc (.cells #[I 0,I (l.length : Int)] 79)).cell? ⟨w.heap.size,0,none⟩ = some (I 0):=by simp
 have c1 : (w.alloc (.cells #[I 0,I (l.length : Int)] 79)).cell? ⟨w.heap.size,1,none⟩ = some (I (l.length : Int)):=by simp
 go_enter Tryz.func91,Tryz.ntmps91
 go_wp2
 refine bodyPost_ret (by simp [results,Tryz.results91,go_sem]; rfl) rfl ?_
 exact ⟨rfl,(Ext.refl _).alloc _⟩

set_option maxHeartbeats 400000 in
theorem pname_any (v : Value) (l : List (Int × Int)) (i : Nat) (w : World) (hv : Writes w v l) (hi : i < l.length) (hl : l.length ≤ 5) :
  Calls Tryz.prog 106 #[v,I i] w fun e w'=>e = .returned (.agg #[I (1 + 2 * (i : Int)),I (l.getD i (0,0)).1]) ∧ Ext w w':=by
 obtain ⟨ao,cap,rfl,h1,h2,h3⟩:=hv.form
 unfold maxLen at h2
 obtain ⟨b,off,rfl,c1,c2⟩:=h3 i hi
 generalize (l.getD i (0,0)).1 = p at *
 generalize (l.getD i (0,0)).2 = q at *
 clear hv h3
 have e0 : Ext w (w.alloc (.cells #[I 0,I 0] 79)):=(Ext.refl w).alloc _
 have HB : Hid ((w.alloc (.cells #[I 0,I 0] 79)).heap[w.heap.size]? = some (.cells #[I 0,I 0] 79 (0,0))):=heap_alloc_new _ _
 have d1:=e0.cell c1
 clear c1 c2
 go_enter Tryz.func106,Tryz.ntmps106
 go_wp2_with fail
 refine wp_region_mono_tail 8 [none,some (.inl (I (1 + 2 * (i : Int)))),none,none,none,none,none,none] (by kernel_rfl) (by kernel_rfl) ?_ ?_
 ·exact ⟨trivial,trivial,trivial,trivial,trivial,trivial,trivial,trivial,trivial⟩
 iterate 1 (refine wpM_p (fun K hK=>?_); go_simp; refine hK _ ?_; clear hK K)
 refine wpM_x _ rfl (fun w' hw' _=>?_) ?_
 ·have hg:=gives_same (nameCell_any i w' (by omega) (by omega))
  unfold makes
  go_simp
  exact ⟨Ext.refl _,hg⟩
 iterate 4 (refine wpM_p (fun K hK=>?_); go_simp; refine hK _ ?_; clear hK K)
 refine wpM_q (I p) rfl (fun w' hw'=>by have:=hw'.cell d1; go_simp) ?_
 iterate 1 (refine wpM_p (fun K hK=>?_); go_simp; refine hK _ ?_; clear hK K)
 refine wpM_nil ?_
 intro w4 he4 _
 have hb4 : w4.heap[w.heap.size]? = some (.cells #[I 0,I 0] 79 (0,0)):=by rw [he4.block _ (by simp)]; exact HB.out
 obtain ⟨x0,x1,f0,f1⟩:=box_of hb4 (Ext.refl _)
 go_wp2
 obtain ⟨z0,z1,-,-⟩:=box_of (wset2 hb4 (I (1 + 2 * (i : Int))) (I p)) (Ext.refl _)
 clear x0 x1 f0 f1
 refine bodyPost_ret (by simp [results,Tryz.results106,go_sem,z0,z1]; rfl) rfl ?_
 exact ⟨rfl,((e0.trans he4).setCell (Nat.le_refl _) _).setCell (Nat.le_refl _) _⟩

set_option maxHeartbeats 400000 in
theorem pnumber_any (v : Value) (l : List (Int × Int)) (i : Nat) (w : World) (hv : Writes w v l) (hi : i < l.length) (hl : l.length ≤ 5) :
  Calls Tryz.prog 90 #[v,I i] w fun e w'=>e = .returned (.agg #[I (2 + 2 * (i : Int)),I (l.getD i (0,0)).2]) ∧ Ext w w':=by
 obtain ⟨ao,cap,rfl,h1,h2,h3⟩:=hv.form
 unfold maxLen at h2
 obtain ⟨b,off,rfl,c1,c2⟩:=h3 i hi
 generalize (l.getD i (0,0)).1 = p at *
 generalize (l.getD i (0,0)).2 = q at *
 clear hv h3
 have e0 : Ext w (w.alloc (.cells #[I 0,I 0] 79)):=(Ext.refl w).alloc _
 have HB : Hid ((w.alloc (.cells #[I 0,I 0] 79)).heap[w.heap.size]? = some (.cells #[I 0,I 0] 79 (0,0))):=heap_alloc_new _ _
 have d1:=e0.cell c2
 clear c1 c2
 go_enter Tryz.func90,Tryz.ntmps90
 go_wp2_with fail
 refine wp_region_mono_tail 8 [none,some (.inl (I (1 + 2 * (i : Int) + 1))),none,none,none,none,none,none] (by kernel_rfl) (by kernel_rfl) ?_ ?_
 ·exact ⟨trivial,trivial,trivial,trivial,trivial,trivial,trivial,trivial,trivial⟩
 iterate 1 (refine wpM_p (fun K hK=>?_); go_simp; refine hK _ ?_; clear hK K)
 refine wpM_x _ rfl (fun w' hw' _=>?_) ?_
 ·have hg:=gives_same (numberCell_any i w' (by omega) (by omega))
  unfold makes
  go_simp
  exact ⟨Ext.refl _,hg⟩
 iterate 4 (refine wpM_p (fun K hK=>?_); go_simp; refine hK _ ?_; clear hK K)
 refine wpM_q (I q) rfl (fun w' hw'=>by have:=hw'.cell d1; go_simp) ?_
 iterate 1 (refine wpM_p (fun K hK=>?_); go_simp; refine hK _ ?_; clear hK K)
 refine wpM_nil ?_
 intro w4 he4 _
 have hb4 : w4.heap[w.heap.size]? = some (.cells #[I 0,I 0] 79 (0,0)):=by rw [he4.block _ (by simp)]; exact HB.out
 obtain ⟨x0,x1,f0,f1⟩:=box_of hb4 (Ext.refl _)
 go_wp2
 obtain ⟨z0,z1,-,-⟩:=box_of (wset2 hb4 (I (1 + 2 * (i : Int) + 1)) (I q)) (Ext.refl _)
 clear x0 x1 f0 f1
 refine bodyPost_ret (by simp [results,Tryz.results90,go_sem,z0,z1]; rfl) rfl ?_
 exact ⟨by rw [show 2 + 2 * (i : Int) = 1 + 2 * (i : Int) + 1 by omega],((e0.trans he4).setCell (Nat.le_refl _) _).setCell (Nat.le_refl _) _⟩

end Go.Proofs.YtdmipnnfooleladGreat

namespace Go.Proofs.YtdmipnnfooleladGreat
open Go.RowKit Go.Mk
set_option maxRecDepth 100000

set_option maxHeartbeats 400000 in
theorem pentry_any (v : Value) (l : List (Int × Int)) (i : Nat) (w : World) (hv : Writes w v l) (hi : i < l.length) (hl : l.length ≤ 5) :
  Gives Tryz.prog 89 #[v,I i] w fun r w'=>Has w.heap.size w' r [(1 + 2 * (i : Int),(l.getD i (0,0)).1),(2 + 2 * (i : Int),(l.getD i (0,0)).2),(0,(l.length : Int))]:=by
 unfold Gives
 have HN:=fun wx (h : Ext w wx)=>pname_any v l i wx (hv.ext h) hi hl
 have HM:=fun wx (h : Ext w wx)=>pnumber_any v l i wx (hv.ext h) hi hl
 have HK:=fun wx (h : Ext w wx)=>pcount_any v l wx (hv.ext h)
 generalize (l.getD i (0,0)).1 = p at *
 generalize (l.getD i (0,0)).2 = q at *
 clear hv
 go_enter Tryz.func89,Tryz.ntmps89
 go_wp2_with fail
 refine Calls.exts (HN _ (Ext.refl _)) (fun w1 e1=>?_)
 go_wp2_with fail
 refine Calls.exts (HM _ e1) (fun w2 e2=>?_)
 replace e2:=e1.trans e2
 go_wp2_with fail
 refine Calls.exts (HK _ e2) (fun w3 e3=>?_)
 replace e3:=e2.trans e3
 go_wp2
 go_ret
 exact ⟨_,rfl,e3.alloc _,phas_lit [(1 + 2 * (i : Int),p),(2 + 2 * (i : Int),q),(0,(l.length : Int))] _ 3 rfl rfl (by decide) _ e3.size⟩

set_option maxHeartbeats 400000 in
theorem pwrites_new (v : Value) (l : List (Int × Int)) (o : Int) (w : World) (hv : Writes w v l) (h0 : 0 < l.length) (hl : l.length ≤ 5) :
  Gives Tryz.prog 76 #[v,I 1,I (-1),I o] w fun r w'=>Has w.heap.size w' r [(1 + 2 * ((l.length - 1 : Nat) : Int),(l.getD (l.length - 1) (0,0)).1),(2 + 2 * ((l.length - 1 : Nat) : Int),(l.getD (l.length - 1) (0,0)).2),(0,(l.length : Int))]:=by
 unfold Gives
 have HE:=pentry_any v l (l.length - 1) w hv (by omega) hl
 obtain ⟨ao,cap,rfl,h1,h2,-⟩:=hv.form
 unfold maxLen at h2
 clear hv
 generalize (l.getD (l.length - 1) (0,0)).1 = p at *
 generalize (l.getD (l.length - 1) (0,0)).2 = q at *
 have hlast : ((l.length - 1 : Nat) : Int) = (l.length : Int) - 1:=by omega
 rw [hlast] at HE ⊢
 go_enter Tryz.func76,Tryz.ntmps76
 go_wp2_with fail
 refine HE.to fun r w' he hr=>?_
 go_wp2
 go_ret
 exact ⟨_,rfl,he,hr⟩

set_option maxHeartbeats 400000 in
theorem pwrites_drop (v : Value) (l : List (Int × Int)) (i : Nat) (o : Int) (w : World) (hv : Writes w v l) (hi : i < l.length) (hl : l.length ≤ 5) :
  Gives Tryz.prog 76 #[v,I 3,I i,I o] w fun r w'=>Has w.heap.size w' r [(1 + 2 * (i : Int),(l.getD i (0,0)).1),(2 + 2 * (i : Int),(l.getD i (0,0)).2),(0,(l.length : Int))]:=by
 unfold Gives
 have HE:=pentry_any v l i w hv hi hl
 obtain ⟨ao,cap,rfl,h1,h2,-⟩:=hv.form
 unfold maxLen at h2
 clear hv
 generalize (l.getD i (0,0)).1 = p at *
 generalize (l.getD i (0,0)).2 = q at *
 have hne : ((i : Int) == (l.length : Int)) = false:=by simp; omega
 go_enter Tryz.func76,Tryz.ntmps76
 go_wp2_with fail
 refine HE.to fun r w' he hr=>?_
 go_wp2
 go_ret
 exact ⟨_,rfl,he,hr⟩

set_option maxHeartbeats 400000 in
theorem pwrites_last (v : Value) (l : List (Int × Int)) (o : Int) (w : World) (hv : Writes w v l) :
  Gives Tryz.prog 76 #[v,I 3,I (l.length : Int),I o] w fun r w'=>Has w.heap.size w' r [(0,(l.length : Int))]:=by
 unfold Gives
 have HE:=pcount_any v l w hv
 obtain ⟨ao,cap,rfl,h1,h2,-⟩:=hv.form
 unfold maxLen at h2
 clear hv
 go_enter Tryz.func76,Tryz.ntmps76
 go_wp2_with fail
 refine Calls.exts HE (fun w1 e1=>?_)
 go_wp2
 go_ret
 exact ⟨_,rfl,e1.alloc _,phas_lit [(0,(l.length : Int))] _ 1 rfl rfl (by decide) _ e1.size⟩

set_option maxHeartbeats 400000 in
theorem pwrites_num (k : Int) (hk : k = 1 ∨ k = 4) (v : Value) (l : List (Int × Int)) (i : Nat) (o : Int) (w : World) (hv : Writes w v l) (hi : i < l.length) (hl : l.length ≤ 5) :
  Gives Tryz.prog 76 #[v,I k,I i,I o] w fun r w'=>Has w.heap.size w' r [(2 + 2 * (i : Int),(l.getD i (0,0)).2)]:=by
 unfold Gives
 have HE:=pnumber_any v l i w hv hi hl
 generalize (l.getD i (0,0)).2 = q at *
 have hn : ¬ (i : Int) < 0:=by omega
 clear hv
 rcases hk with rfl | rfl
 all_goals
  go_enter Tryz.func76,Tryz.ntmps76
  go_wp2_with fail
  refine Calls.exts HE (fun w1 e1=>?_)
  go_wp2
  go_ret
  exact ⟨_,rfl,e1.alloc _,phas_lit [(2 + 2 * (i : Int),q)] _ 1 rfl rfl (by decide) _ e1.size⟩

set_option maxHeartbeats 400000 in
theorem pwrites_swap (v : Value) (l : List (Int × Int)) (i j : Nat) (w : World) (hv : Writes w v l) (hi : i < l.length) (hj : j < l.length) (hl : l.length ≤ 5) :
  Gives Tryz.prog 76 #[v,I 6,I i,I j] w fun r w'=>Has w.heap.size w' r [(2 + 2 * (i : Int),(l.getD i (0,0)).2),(2 + 2 * (j : Int),(l.getD j (0,0)).2)]:=by
 unfold Gives
 have HN:=fun wx (h : Ext w wx)=>pnumber_any v l i wx (hv.ext h) hi hl
 have HM:=fun wx (h : Ext w wx)=>pnumber_any v l j wx (hv.ext h) hj hl
 generalize (l.getD i (0,0)).2 = p at *
 generalize (l.getD j (0,0)).2 = q at *
 clear hv
 go_enter Tryz.func76,Tryz.ntmps76
 go_wp2_with fail
 refine Calls.exts (HN _ (Ext.refl _)) (fun w1 e1=>?_)
 go_wp2_with fail
 refine Calls.exts (HM _ e1) (fun w2 e2=>?_)
 replace e2:=e1.trans e2
 go_wp2
 go_ret
 exact ⟨_,rfl,e2.alloc _,phas_lit [(2 + 2 * (i : Int),p),(2 + 2 * (j : Int),q)] _ 2 rfl rfl (by decide) _ e2.size⟩

set_option maxHeartbeats 400000 in
theorem pwrites_none (k : Int) (hk : k = 2 ∨ k = 5) (v : Value) (i o : Int) (w : World) :
  Gives Tryz.prog 76 #[v,I k,I i,I o] w fun r w'=>Has w.heap.size w' r []:=by
 unfold Gives
 rcases hk with rfl | rfl
 all_goals
  go_enter Tryz.func76,Tryz.ntmps76
  go_wp2
  go_ret
  exact ⟨_,rfl,Ext.refl _,Has.nil _ _⟩

end Go.Proofs.YtdmipnnfooleladGreat

namespace Go.Proofs.YtdmipnnfooleladGreat
open Go.RowKit Go.Mk
set_option maxRecDepth 100000

theorem pdrop_at {l : List (Int × Int)} {i : Nat} (h : i + 1 < l.length) : ((l.set i (l.getD (l.length - 1) (0,0))).take (l.length - 1)).getD i (0,0) = l.getD (l.length - 1) (0,0):=by
 have h1 : i < l.length - 1:=by omega
 have h2 : i < l.length:=by omega
 simp [List.getD_eq_getElem?_getD,h1]

theorem gives_list {f : FuncId} {args : Array Value} {w : World} {b : Nat} {l m : List (Int × Int)} (h : Gives Tryz.prog f args w fun r w'=>Has b w' r l) (e : l = m) : Gives Tryz.prog f args w fun r w'=>Has b w' r m:=e ▸ h

/-- Where a name stands, as Find tells it. -/
def atI (l : List (Int × Int)) (a : Int) : Int:=if at1 l a < l.length then (at1 l a : Int) else -1

theorem pwrites_plan (v : Value) (l : List (Int × Int)) (k a o n : Int) (w : World) (hc : wrongCl ⟨k,a,o,n⟩ = 0) (hl : Okw l) (he0 : (doCl l ⟨k,a,o,n⟩).2.err = 0) (hv : Writes w v (doCl l ⟨k,a,o,n⟩).1) :
  Gives Tryz.prog 76 #[v,I k,I (atI l a),I (atI l o)] w fun r w'=>Has w.heap.size w' r (planX l ⟨k,a,o,n⟩):=by
 have h5:=len_do (c:=⟨k,a,o,n⟩) hl.len
 have hl5:=hl.len
 obtain ⟨hk,_⟩:=wrongCl_zero hc
 clear hc
 rcases hk with rfl | rfl | rfl | rfl | rfl | rfl
 ·rw [doCl_put] at he0 hv h5
  by_cases ha : at1 l a < l.length
  ·rw [if_pos ha] at hv h5
   rw [show atI l a = (at1 l a : Int) from if_pos ha]
   refine gives_list (pwrites_num 1 (.inl rfl) v _ (at1 l a) _ w hv (by rw [length_put1]; exact ha) h5) ?_
   rw [getD_put1 _ _ _ _ ha,if_pos rfl]
   simp [planX,ha]
  ·by_cases h6 : 5 ≤ l.length
   ·rw [if_neg ha,if_pos h6] at he0
    exact absurd he0 (by simp)
   ·rw [if_neg ha,if_neg h6] at hv h5
    rw [show atI l a = -1 from if_neg ha]
    refine gives_list (pwrites_new v _ _ w hv (by simp) h5) ?_
    simp [planX,ha]
 ·rw [show planX l ⟨2,a,o,n⟩ = [] by simp [planX]]
  exact pwrites_none 2 (.inl rfl) v _ _ w
 ·rw [doCl_drop] at he0 hv h5
  by_cases ha : at1 l a < l.length
  ·rw [if_neg (by simpa using ha)] at hv h5
   rw [show atI l a = (at1 l a : Int) from if_pos ha]
   have hlen : ((l.set (at1 l a) (l.getD (l.length - 1) (0,0))).take (l.length - 1)).length = l.length - 1:=by simp
   by_cases hm : at1 l a + 1 < l.length
   ·refine gives_list (pwrites_drop v _ (at1 l a) _ w hv (by rw [hlen]; omega) h5) ?_
    rw [pdrop_at hm,hlen]
    simp only [planX,hm,if_true,if_neg (show ¬ (3 : Int) = 1 by decide)]
    rw [show ((l.length - 1 : Nat) : Int) = (l.length : Int) - 1 by omega]
   ·have:=pwrites_last v _ (atI l o) w hv
    rw [hlen] at this
    rw [show (at1 l a : Int) = ((l.length - 1 : Nat) : Int) by omega]
    refine gives_list this ?_
    simp only [planX,hm,if_true,if_false,if_neg (show ¬ (3 : Int) = 1 by decide)]
    rw [show ((l.length - 1 : Nat) : Int) = (l.length : Int) - 1 by omega]
  ·rw [if_pos ha] at he0
   exact absurd he0 (by simp)
 ·rw [doCl_add] at he0 hv h5
  by_cases ha : at1 l a < l.length
  ·rw [if_neg (by simpa using ha)] at he0 hv h5
   by_cases hr : -1073741824 ≤ num l (at1 l a) + n ∧ num l (at1 l a) + n ≤ 1073741824
   ·rw [if_neg (by simpa using hr)] at hv h5
    rw [show atI l a = (at1 l a : Int) from if_pos ha]
    refine gives_list (pwrites_num 4 (.inr rfl) v _ (at1 l a) _ w hv (by rw [length_put1]; exact ha) h5) ?_
    rw [getD_put1 _ _ _ _ ha,if_pos rfl]
    simp [planX]
   ·rw [if_pos hr] at he0
    exact absurd he0 (by simp)
  ·rw [if_pos ha] at he0
   exact absurd he0 (by simp)
 ·rw [show planX l ⟨5,a,o,n⟩ = [] by simp [planX]]
  exact pwrites_none 5 (.inr rfl) v _ _ w
 ·rw [doCl_swap'] at he0 hv h5
  by_cases ha : at1 l a < l.length
  ·rw [if_neg (by simpa using ha)] at he0 hv h5
   by_cases hb : at1 l o < l.length
   ·rw [if_neg (by simpa using hb)] at hv
    rw [show atI l a = (at1 l a : Int) from if_pos ha,show atI l o = (at1 l o : Int) from if_pos hb]
    have hv2 : Writes w v (put1 (put1 l (at1 l a) (num l (at1 l o))) (at1 l o) (num l (at1 l a))):=hv
    have hb2 : at1 l o < (put1 l (at1 l a) (num l (at1 l o))).length:=by rw [length_put1]; exact hb
    have hlen : (put1 (put1 l (at1 l a) (num l (at1 l o))) (at1 l o) (num l (at1 l a))).length = l.length:=by rw [length_put1,length_put1]
    have p1 : ((put1 (put1 l (at1 l a) (num l (at1 l o))) (at1 l o) (num l (at1 l a))).getD (at1 l a) (0,0)).2 = num l (at1 l o):=by
     rw [getD_put1 _ _ _ _ hb2]
     by_cases he : at1 l o = at1 l a
     ·rw [if_pos he,he]
     ·rw [if_neg he,getD_put1 _ _ _ _ ha,if_pos rfl]
    have p2 : ((put1 (put1 l (at1 l a) (num l (at1 l o))) (at1 l o) (num l (at1 l a))).getD (at1 l o) (0,0)).2 = num l (at1 l a):=by
     rw [getD_put1 _ _ _ _ hb2,if_pos rfl]
    refine gives_list (pwrites_swap v _ (at1 l a) (at1 l o) w hv2 (by rw [hlen]; exact ha) (by rw [hlen]; exact hb) (by rw [hlen]; exact hl5)) ?_
    rw [p1,p2]
    simp [planX]
   ·rw [if_pos hb] at he0
    exact absurd he0 (by simp)
  ·rw [if_pos ha] at he0
   exact absurd he0 (by simp)

end Go.Proofs.YtdmipnnfooleladGreat

namespace Go.Proofs.YtdmipnnfooleladGreat
open Go.RowKit Go.Mk
set_option maxRecDepth 100000

/-- What is known when the document's Plan has asked Of, Do and Find. -/
def PlansH (base : Nat) (l : List (Int × Int)) (c : Cl) (e : Ending) (w : World) : Prop:=∃ u,e = .returned (.tuple #[u,(doCl l c).2.val]) ∧ Has base w u (planCl l c)
theorem pboxes {w : World} {o1 o2 : Obj} {wx : World} {v0 v1 v2 v3 : Value} (h1 : o1 = .cells #[v0,v1,v2,v3] 34 (0,0)) (h2 : o2 = .cells #[I 0,I 0] 39 (0,0)) (hx : Ext ((w.alloc o1).alloc o2) wx) :
  (wx.cell? ⟨w.heap.size,0,none⟩ = some v0 ∧ wx.cell? ⟨w.heap.size,1,none⟩ = some v1 ∧ wx.cell? ⟨w.heap.size,2,none⟩ = some v2 ∧ wx.cell? ⟨w.heap.size,3,none⟩ = some v3) ∧ wx.heap[w.heap.size + 1]? = some (.cells #[I 0,I 0] 39 (0,0)):=by
 subst h1 h2
 have p0 : ((w.alloc (.cells #[v0,v1,v2,v3] 34 (0,0))).alloc (.cells #[I 0,I 0] 39 (0,0))).heap[w.heap.size]? = some (.cells #[v0,v1,v2,v3] 34 (0,0)):=by
  rw [heap_alloc_old _ _ (by simp)]; exact heap_alloc_new _ _
 have p1 : ((w.alloc (.cells #[v0,v1,v2,v3] 34 (0,0))).alloc (.cells #[I 0,I 0] 39 (0,0))).heap[w.heap.size + 1]? = some (.cells #[I 0,I 0] 39 (0,0)):=by
  have:=heap_alloc_new (w.alloc (.cells #[v0,v1,v2,v3] 34 (0,0))) (.cells #[I 0,I 0] 39 (0,0))
  simpa using this
 refine ⟨⟨hx.cell (cell_block p0 rfl),hx.cell (cell_block p0 rfl),hx.cell (cell_block p0 rfl),hx.cell (cell_block p0 rfl)⟩,?_⟩
 rw [hx.block _ (by simp)]
 exact p1

theorem Does.low {b1 b2 : Nat} {l : List (Int × Int)} {c : Cl} {r : Value} {w : World} (h : Does b1 l c r w) (hle : b2 ≤ b1) : Does b2 l c r w:=by
 obtain ⟨u,e,h⟩:=h
 exact ⟨u,e,h.low hle⟩

theorem monoDoes (b : Nat) (l : List (Int × Int)) (c : Cl) : ∀ v,MonoP (fun w=>Does b l c v w):=fun _ _ _ he ⟨u,e,h⟩=>⟨u,e,h.ext he⟩

/-- A new box of two cells. -/
def Box (base : Nat) (t : TypeId) (x y : Value) (v : Value) (w : World) : Prop:=∃ b,v = .pointer (some ⟨b,0,none⟩) ∧ base ≤ b ∧ w.heap[b]? = some (.cells #[x,y] t (0,0))

theorem monoBox (base : Nat) (t : TypeId) (x y : Value) : ∀ v,MonoP (Box base t x y v):=fun _ _ _ he ⟨b,e,h1,h2⟩=>⟨b,e,h1,by rw [he.block b (Array.getElem?_eq_some_iff.1 h2).1]; exact h2⟩

theorem box_new {w : World} {base : Nat} {t : TypeId} {x y : Value} (h : base ≤ w.heap.size) : Box base t x y (.pointer (some ⟨w.heap.size,0,none⟩)) (w.alloc (.cells #[x,y] t)):=⟨_,rfl,h,heap_alloc_new _ _⟩

theorem Has.box {base : Nat} {w : World} {u : Value} {l : List (Int × Int)} (h : Has base w u l) {b : Nat} {cs : Array Value} {t : TypeId} (hb : w.heap[b]? = some (.cells cs t (0,0))) (hne : (79 : Nat) ≠ t) (i : Nat) (y : Value) : Has base (w.setCell ⟨b,i,none⟩ y) u l:=by
 obtain ⟨x,m,lo,h1,h2⟩:=h
 exact ⟨x,m,lo,owns_setCell h1 (own_ne h1 hb hne) i y,h2⟩

theorem Has.box2 {base : Nat} {w : World} {u : Value} {l : List (Int × Int)} (h : Has base w u l) {b : Nat} {p q : Value} {t : TypeId} (hb : w.heap[b]? = some (.cells #[p,q] t (0,0))) (hne : (79 : Nat) ≠ t) (x y : Value) : Has base ((w.setCell ⟨b,0,none⟩ x).setCell ⟨b,1,none⟩ y) u l :=
 (h.box hb hne 0 x).box (heap_setCell_same _ _ 0 _ _ x hb) hne 1 y

set_option maxHeartbeats 1000000 in
theorem MakeW_any (v : Value) (xs : List Int) (k a o n : Int) (w : World) (hv : Ints w v xs) (hx : Weak xs) (hc : wrongCl ⟨k,a,o,n⟩ = 0) :
  Calls Tryz.prog 60 #[v,.agg #[I k,I a,I o,I n]] w fun e w'=>PlansH w.heap.size (ofCells xs (xs.getD 0 0).toNat) ⟨k,a,o,n⟩ e w' ∧ Ext w w':=by
 obtain ⟨hl11,hx0,hx5,hok⟩:=id hx
 have hO:=fun wx (h : Ext w wx)=>OfW_any v xs wx (hv.ext h) hx.c
 have hF:=fun nm wx (h : Ext w wx)=>Find_any v xs nm wx (hv.ext h) (by omega)
 have hD:=fun u wx h=>DoW_any u (ofCells xs (xs.getD 0 0).toNat) k a o n wx h hok hc
 have hent : (entriesOf xs).toNat = (ofCells xs (xs.getD 0 0).toNat).length:=by
  rw [length_ofCells]; unfold entriesOf; rw [if_neg (by omega)]; omega
 simp only [hent] at hF
 have HFA:=Lib.hid (find_at1 xs a (xs.getD 0 0).toNat)
 have HFO:=Lib.hid (find_at1 xs o (xs.getD 0 0).toNat)
 generalize hL : ofCells xs (xs.getD 0 0).toNat = l at *
 have HLN : Hid (l.length = (xs.getD 0 0).toNat):=by unfold Hid; rw [← hL,length_ofCells]
 have HOK : Hid (Okw l):=hok
 have HC : Hid (wrongCl ⟨k,a,o,n⟩ = 0):=hc
 have HL : Hid (ofCells xs (xs.getD 0 0).toNat = l):=hL
 clear hv hx hl11 hx0 hx5 hok hc hL hent
 have e0 : Ext w ((w.alloc (.cells #[I k,I a,I o,I n] 34)).alloc (.cells #[I 0,I 0] 39)):=((Ext.refl w).alloc _).alloc _
 have HB : Hid (∀ wx,Ext ((w.alloc (.cells #[I k,I a,I o,I n] 34)).alloc (.cells #[I 0,I 0] 39)) wx → (wx.cell? ⟨w.heap.size,0,none⟩ = some (I k) ∧ wx.cell? ⟨w.heap.size,1,none⟩ = some (I a) ∧ wx.cell? ⟨w.heap.size,2,none⟩ = some (I o) ∧ wx.cell? ⟨w.heap.size,3,none⟩ = some (I n)) ∧
   wx.heap[w.heap.size + 1]? = some (.cells #[I 0,I 0] 39 (0,0))):=fun wx hx=>pboxes rfl rfl hx
 generalize hw0 : (w.alloc (.cells #[I k,I a,I o,I n] 34)).alloc (.cells #[I 0,I 0] 39) = w0 at *
 have HW0:=Lib.hid hw0
 have HSZ : Hid (w0.heap.size = w.heap.size + 2):=by unfold Hid; rw [← hw0]; simp
 go_enter Tryz.func60,Tryz.ntmps60
 go_wp2_with fail
 clear hw0
 obtain ⟨⟨c0,c1,c2,c3⟩,-⟩:=HB.out w0 (Ext.refl _)
 refine wp_region_mono_tail 9 [none,some (.inr fun v w=>Writes w v l),none,some (.inr fun r wx=>Does w0.heap.size l ⟨k,a,o,n⟩ r wx),some (.inr fun r wx=>Does w0.heap.size l ⟨k,a,o,n⟩ r wx),some (.inr fun u wx=>Has w0.heap.size wx u (doCl l ⟨k,a,o,n⟩).1),some (.inl (doCl l ⟨k,a,o,n⟩).2.val),some (.inr (Box w0.heap.size 39 (I 0) (I 0))),none] (by kernel_rfl) (by kernel_rfl) ?_ ?_
 ·exact ⟨trivial,monoWrites _,trivial,monoDoes _ _ _,monoDoes _ _ _,monoHas _ _,trivial,monoBox _ _ _ _,trivial,trivial⟩
 iterate 1 (refine wpM_p (fun K hK=>?_); go_simp; refine hK _ ?_; clear hK K)
 refine wpM_l _ rfl (fun w' hw' _=>?_) (fun v10=>?_)
 ·have hg:=hO w' (e0.trans hw')
  unfold makes
  go_simp
  exact ⟨Ext.refl _,hg⟩
 refine wpM_q (.agg #[I k,I a,I o,I n]) rfl (fun w' hw'=>by have q0:=hw'.cell c0; have q1:=hw'.cell c1; have q2:=hw'.cell c2; have q3:=hw'.cell c3; go_simp) ?_
 refine wpM_l _ rfl (fun w' hw' hk=>?_) (fun v12=>?_)
 ·have h7 : Writes w' v10 l:=hk 10 (by decide)
  have hg:=Calls.mono (hD v10 w' h7) (fun e w'' ⟨r,he,hx,hd⟩=>(⟨r,he,hx,hd.low hw'.size⟩ : ∃ r,e = Ending.returned r ∧ Ext w' w'' ∧ Does w0.heap.size l ⟨k,a,o,n⟩ r w''))
  clear hk h7
  unfold makes
  go_simp
  exact ⟨Ext.refl _,hg⟩
 refine wpM_l _ rfl (fun w' hw' hk=>?_) (fun v8=>?_)
 ·have h7 : Does w0.heap.size l ⟨k,a,o,n⟩ v12 w':=hk 12 (by decide)
  clear hk
  unfold makes
  go_simp
  exact ⟨Ext.refl _,h7⟩
 refine wpM_l _ rfl (fun w' hw' hk=>?_) (fun v13=>?_)
 ·obtain ⟨u,rfl,h7⟩ : Does w0.heap.size l ⟨k,a,o,n⟩ v8 w':=hk 8 (by decide)
  clear hk
  unfold makes
  go_simp
  exact ⟨Ext.refl _,h7⟩
 refine wpM_x _ rfl (fun w' hw' hk=>?_) ?_
 ·obtain ⟨u,rfl,h7⟩ : Does w0.heap.size l ⟨k,a,o,n⟩ v8 w':=hk 8 (by decide)
  clear hk
  unfold makes
  go_simp
  exact ⟨Ext.refl _,rfl⟩
 refine wpM_l _ rfl (fun w' hw' hk=>?_) (fun v7=>?_)
 ·clear hk
  unfold makes
  go_simp
  exact ⟨(Ext.refl _).alloc _,box_new hw'.size⟩
 iterate 1 (refine wpM_p (fun K hK=>?_); go_simp; refine hK _ ?_; clear hK K)
 refine wpM_nil ?_
 intro w1 e1 hX
 have hh : Has w0.heap.size w1 v13 (doCl l ⟨k,a,o,n⟩).1:=hX 13
 obtain ⟨b,rfl,hb0,hb1⟩ : Box w0.heap.size 39 (I 0) (I 0) v7 w1:=hX 7
 clear hX c0 c1 c2 c3
 obtain ⟨hbx1,hbx2⟩:=HB.out w1 e1
 have hbs : w.heap.size + 1 < w0.heap.size:=by have:=HSZ.out; omega
 have hdl : (doCl l ⟨k,a,o,n⟩).1.length ≤ 5:=len_do HOK.out.len
 have hdn : (doCl l ⟨k,a,o,n⟩).2.err ≠ 0 → planCl l ⟨k,a,o,n⟩ = []:=fun h=>if_pos h
 have hdz : (doCl l ⟨k,a,o,n⟩).2.err = 0 → planCl l ⟨k,a,o,n⟩ = planX l ⟨k,a,o,n⟩:=fun h=>if_neg (by simp [h])
 generalize hDD : doCl l ⟨k,a,o,n⟩ = D at *
 have HD:=Lib.hid hDD
 clear hDD
 obtain ⟨D1,D2,D3⟩:=D
 simp only [] at hh hdl hdn hdz
 obtain ⟨x0,x1,f0,f1⟩:=box_of hb1 (Ext.refl _)
 have HP : Hid (∀ wx u,Ext w w1 → D2 = 0 → Writes wx u D1 → Gives Tryz.prog 76 #[u,I k,I (atI l a),I (atI l o)] wx fun r w'=>Has wx.heap.size w' r (planX l ⟨k,a,o,n⟩)):=fun wx u _ hz hu=>by
  have hz2 : (doCl l ⟨k,a,o,n⟩).2.err = 0:=by rw [HD.out]; exact hz
  exact pwrites_plan u l k a o n wx HC.out HOK.out hz2 (by rw [HD.out]; exact hu)
 have hFa:=fun wx h=>hF a wx h
 have hFo:=fun wx h=>hF o wx h
 rw [HLN.out,HFA.out,← HLN.out] at hFa
 rw [HLN.out,HFO.out,← HLN.out] at hFo
 have e2 : Ext w0 ((w1.setCell ⟨b,0,none⟩ (I D2)).setCell ⟨b,1,none⟩ (I D3)):=(e1.setCell hb0 _).setCell hb0 _
 have hh2:=hh.box2 hb1 (by decide) (I D2) (I D3)
 have hb2:=wset2 hb1 (I D2) (I D3)
 have hww : Ext w w1:=e0.trans e1
 clear hbx1 hbx2 hh hb1 hO hD hF hdl e1
 by_cases hz : D2 = 0
 case neg =>
  have hbz : (D2 != 0) = true:=by simpa using hz
  have hpl:=hdn hz
  clear hdn hdz hz hFa hFo HP
  go_wp2_with fail
  clear x0 x1 f0 f1
  generalize hw2 : (w1.setCell ⟨b,0,none⟩ (I D2)).setCell ⟨b,1,none⟩ (I D3) = w2 at *
  clear hw2
  obtain ⟨-,rb⟩:=HB.out w2 e2
  obtain ⟨y0,y1,g0,g1⟩:=box_of hb2 (Ext.refl _)
  refine wp_region_mono_tail 2 [none,none] (by kernel_rfl) (by kernel_rfl) ?_ ?_
  ·exact ⟨trivial,trivial,trivial⟩
  refine wpM_q (.agg #[I D2,I D3]) rfl (fun w' hw'=>by have q0:=hw'.cell y0; have q1:=hw'.cell y1; go_simp) ?_
  iterate 1 (refine wpM_p (fun K hK=>?_); go_simp; refine hK _ ?_; clear hK K)
  refine wpM_nil ?_
  intro w4 he4 _
  clear y0 y1 g0 g1
  have rb4 : w4.heap[w.heap.size + 1]? = some (.cells #[I 0,I 0] 39 (0,0)):=(HB.out w4 (e2.trans he4)).2
  obtain ⟨x0,x1,f0,f1⟩:=box_of rb4 (Ext.refl _)
  go_wp2
  obtain ⟨z0,z1,-,-⟩:=box_of (wset2 rb4 (I D2) (I D3)) (Ext.refl _)
  clear x0 x1 f0 f1
  refine bodyPost_ret (by simp [results,Tryz.results60,go_sem,z0,z1]; rfl) rfl ?_
  refine ⟨⟨_,by rw [HD.out],by rw [hpl]; exact Has.nil _ _⟩,((e0.trans (e2.trans he4)).setCell (by simp only []; omega) _).setCell (by simp only []; omega) _⟩
 subst hz
 have hpl:=hdz rfl
 clear hdn hdz
 go_wp2_with fail
 clear x0 x1 f0 f1
 generalize hw2 : (w1.setCell ⟨b,0,none⟩ (I 0)).setCell ⟨b,1,none⟩ (I D3) = w2 at *
 clear hw2
 obtain ⟨⟨c0,c1,c2,c3⟩,-⟩:=HB.out w2 e2
 obtain ⟨y0,y1,g0,g1⟩:=box_of hb2 (Ext.refl _)
 have ha : (if at1 l a < l.length then (at1 l a : Int) else -1) = atI l a:=rfl
 have ho : (if at1 l o < l.length then (at1 l o : Int) else -1) = atI l o:=rfl
 rw [ha] at hFa
 rw [ho] at hFo
 clear ha ho
 generalize atI l a = fa at *
 generalize atI l o = fo at *
 refine wp_region_mono_tail 14 [none,none,none,none,none,none,some (.inl (I fa)),none,none,none,some (.inl (I fo)),some (.inr fun r wx=>Has w0.heap.size wx r (planX l ⟨k,a,o,n⟩)),none,none] (by kernel_rfl) (by kernel_rfl) ?_ ?_
 ·exact ⟨trivial,trivial,trivial,trivial,trivial,trivial,trivial,trivial,trivial,trivial,trivial,monoHas _ _,trivial,trivial,trivial⟩
 iterate 2 (refine wpM_p (fun K hK=>?_); go_simp; refine hK _ ?_; clear hK K)
 refine wpM_q (I k) rfl (fun w' hw'=>by have q0:=hw'.cell c0; go_simp) ?_
 iterate 2 (refine wpM_p (fun K hK=>?_); go_simp; refine hK _ ?_; clear hK K)
 refine wpM_q (I a) rfl (fun w' hw'=>by have q0:=hw'.cell c1; go_simp) ?_
 refine wpM_x _ rfl (fun w' hw' _=>?_) ?_
 ·have hg:=gives_same (hFa w' (e0.trans (e2.trans hw')))
  unfold makes
  go_simp
  exact ⟨Ext.refl _,hg⟩
 iterate 2 (refine wpM_p (fun K hK=>?_); go_simp; refine hK _ ?_; clear hK K)
 refine wpM_q (I o) rfl (fun w' hw'=>by have q0:=hw'.cell c2; go_simp) ?_
 refine wpM_x _ rfl (fun w' hw' _=>?_) ?_
 ·have hg:=gives_same (hFo w' (e0.trans (e2.trans hw')))
  unfold makes
  go_simp
  exact ⟨Ext.refl _,hg⟩
 refine wpM_l _ rfl (fun w' hw' _=>?_) (fun v30=>?_)
 ·have hg:=(HP.out w' v13 hww trivial (hh2.writes.ext hw')).mono (fun r wx _ hr=>Has.low hr (Nat.le_trans e2.size hw'.size))
  unfold makes
  go_simp
  exact ⟨Ext.refl _,hg⟩
 refine wpM_q (.agg #[I 0,I D3]) rfl (fun w' hw'=>by have q0:=hw'.cell y0; have q1:=hw'.cell y1; go_simp) ?_
 iterate 1 (refine wpM_p (fun K hK=>?_); go_simp; refine hK _ ?_; clear hK K)
 refine wpM_nil ?_
 intro w4 he4 hX
 have hr : Has w0.heap.size w4 v30 (planX l ⟨k,a,o,n⟩):=hX 30
 clear y0 y1 g0 g1 c0 c1 c2 c3 hX HP
 have rb4 : w4.heap[w.heap.size + 1]? = some (.cells #[I 0,I 0] 39 (0,0)):=(HB.out w4 (e2.trans he4)).2
 obtain ⟨x0,x1,f0,f1⟩:=box_of rb4 (Ext.refl _)
 go_wp2
 obtain ⟨z0,z1,-,-⟩:=box_of (wset2 rb4 (I 0) (I D3)) (Ext.refl _)
 clear x0 x1 f0 f1
 refine bodyPost_ret (by simp [results,Tryz.results60,go_sem,z0,z1]; rfl) rfl ?_
 refine ⟨⟨_,by rw [HD.out],by rw [hpl]; exact (hr.box2 rb4 (by decide) _ _).low (by have:=HSZ.out; omega)⟩,((e0.trans (e2.trans he4)).setCell (by simp only []; omega) _).setCell (by simp only []; omega) _⟩

end Go.Proofs.YtdmipnnfooleladGreat

/- Texts of the proof, merged: M4 M5 M6 M7 M8 W5. -/
import Derived.Test.YtikbhmnjlmbeeaeGreatKOA
import Derived.Test.YtikbhmnjlmbeeaeGreatKOA1
import Derived.Test.YtikbhmnjlmbeeaeGreatKOC
import Derived.Test.YtikbhmnjlmbeeaeGreatKOO
set_option maxHeartbeats 1000000
set_option maxRecDepth 100000

namespace Go.Proofs.YtikbhmnjlmbeeaeGreat
open Go.RowKit Go.Mk

def zfS (w : World) (g : Nat) (l : List (Int × Int)) (r : Rp) (e : Ending) (w' : World) : Prop :=
 ∃ u v n lo,e = .returned (.tuple #[u,.agg #[I r.err,I r.n]]) /\ w'.ownsRow g 91 2 v n (zaE lo) /\ (∀ w2 : World,w2.ownsRow g 91 2 v n (zaE lo) -> zaC w2 u l) /\ w.grownBy w' (some g)

abbrev zdh (w : World) (g : Nat) (l : List (Int × Int)) : Prop:=w.ownsRow g 91 2 (.slice (some ⟨g,0,none⟩) l.length l.length) l.length (zaE l)

theorem zcy {w w1 : World} {g b n : Nat} {u v x y : Value} {l l' : List (Int × Int)} {r : Rp} (hb : w.heap.size <= b) (ho : w1.ownsRow g 91 2 v n (zaE l)) (hv : v.ownBlock ≠ some b) (hg : w.grownBy w1 (some g))
  (hu : ∀ w2 : World,w2.ownsRow g 91 2 v n (zaE l) -> zaC w2 u l') : zfS w g l' r (.returned (.tuple #[u,.agg #[I r.err,I r.n]])) ((w1.setCell ⟨b,0,none⟩ x).setCell ⟨b,1,none⟩ y) :=
 ⟨u,v,n,l,rfl,zbp (zbp ho hv _ _) hv _ _,hu,zjD (zjD hg hb _ _) hb _ _⟩

theorem zkH {w : World} {g : Nat} {l : List (Int × Int)} (ho : zdh w g l) : (Value.slice (some ⟨g,0,none⟩) l.length l.length).ownBlock ≠ some w.heap.size:=fun e=>by
 have h:=(ho.lt g rfl).2
 have e2 : g = w.heap.size:=by simpa [Value.ownBlock] using e
 rw [e2] at h
 exact Nat.lt_irrefl _ h

theorem zno (l : List (Int × Int)) (g : Nat) (w : World) (ho : zdh w g l) :
  Calls Tryz.prog 133 #[.slice (some ⟨g,0,none⟩) l.length l.length] w fun e w'=>zfS w g l ⟨0,l.length⟩ e w':=by
 go_enter Tryz.func133,Tryz.ntmps133
 go_wp2_with fail
 refine Calls.exts (zd7 _ _ _) (fun w1 e1=>?_);obtain ⟨c0,c1,f0,f1⟩:=zj6 e1;go_wp2
 try simp only [Exit.inBlock,Exit.then]
 refine bodyPost_ret (by simp [results,Tryz.results133,go_sem,c0,c1]; rfl) rfl ?_;have he : Ext w w1:=((Ext.refl w).alloc _).trans e1;exact zcy (Nat.le_refl _) (zal ho he) (zkH ho) (he.grownBy _) (fun w2 h2=>zaH h2)

theorem zcz {w : World} {g : Nat} {l : List (Int × Int)} (ho : zdh w g l) (i : Nat) (hi : i < l.length) : w.cell? ⟨g,i * 2,none⟩ = some (I (l.getD i (0,0)).1) /\ w.cell? ⟨g,i * 2 + 1,none⟩ = some (I (l.getD i (0,0)).2):=by
 obtain ⟨a,b⟩:=ze4 l i hi
 rw [<- ho.cellAt _ (by omega)] at a b
 exact ⟨a,b⟩

theorem zpo (l : List (Int × Int)) (g i : Nat) (w : World) (ho : zdh w g l) (hi : i < l.length) :
  Calls Tryz.prog 136 #[.slice (some ⟨g,0,none⟩) l.length l.length,I i] w fun e w'=>zfS w g l ⟨0,num l i⟩ e w':=by
 have hc : ∀ o,(w.alloc o).cell? ⟨g,i * 2 + 1,none⟩ = some (I (num l i)):=fun o=>(zcz (ho.alloc o) i hi).2;go_enter Tryz.func136,Tryz.ntmps136
 go_wp2_with fail
 refine Calls.exts (zd7 _ _ _) (fun w1 e1=>?_);obtain ⟨c0,c1,f0,f1⟩:=zj6 e1;go_wp2
 try simp only [Exit.inBlock,Exit.then]
 refine bodyPost_ret (by simp [results,Tryz.results136,go_sem,c0,c1]; rfl) rfl ?_;have he : Ext w w1:=((Ext.refl w).alloc _).trans e1;exact zcy (Nat.le_refl _) (zal ho he) (zkH ho) (he.grownBy _) (fun w2 h2=>zaH h2)

theorem zoV (l : List (Int × Int)) (g i : Nat) (w : World) (ho : zdh w g l) (hi : i < l.length) (hr : l.length * 16 <= 140737488355328) :
  Calls Tryz.prog 137 #[.slice (some ⟨g,0,none⟩) l.length l.length,I i] w fun e w'=>zfS w g ((l.set i (l.getD (l.length - 1) (0,0))).take (l.length - 1)) ⟨0,num l i⟩ e w':=by
 have hg : g < w.heap.size:=(ho.lt g rfl).2;obtain ⟨hc1,hc2⟩:=zcz ho i hi;obtain ⟨hc3,hc4⟩:=zcz ho (l.length - 1) (by omega);have hf1 : w.frozen? ⟨g,i * 2,none⟩ = false:=ho.frozenAt _;have hf2 : w.frozen? ⟨g,i * 2 + 1,none⟩ = false:=ho.frozenAt _;have HN : Hid (num l i = (l.getD i (0,0)).2):=rfl;generalize hL : l.length - 1 = L at *;have hLi : (l.length : Int) - 1 = (L : Int):=by omega
 have hLl : (L : Int) < (l.length : Int):=by omega
 have hLt : (L : Int).toNat = L:=by omega
 have HL : Hid (l.length - 1 = L):=hL;clear hL;generalize hQ : l.getD L (0,0) = q at *;have HQ : Hid (l.getD L (0,0) = q):=hQ;clear hQ;generalize hP : l.getD i (0,0) = p at *;obtain ⟨p1,p2⟩:=p;obtain ⟨q1,q2⟩:=q;simp only [] at hc1 hc2 hc3 hc4;rw [HN.o];clear hP HN;go_enter Tryz.func137,Tryz.ntmps137
 go_wp2_with fail
 refine Calls.exts (zd7 _ _ _) (fun w1 e1=>?_);obtain ⟨c0,c1,f0,f1⟩:=zp3 w.heap.size e1 (by simp);have s1:=ho.stored (i * 2) (I q1);have s2:=s1.1.stored (i * 2 + 1) (I q2);have ho':=zal s2.1 (((Ext.refl _).alloc _).trans e1);have hg':=za6 (za6 s1.2 s2.2) ((((Ext.refl _).alloc _).trans e1).grownBy _);clear s1 s2 hc1 hc2 hc3 hc4 hf1 hf2 e1;go_wp2
 try simp only [Exit.inBlock,Exit.then]
 refine bodyPost_ret (by simp [results,Tryz.results137,go_sem,c0,c1]; rfl) rfl ?_;have hlen : (l.set i (q1,q2)).length = l.length:=by simp
 rw [show ((zaE l).set (i * 2) (I q1)).set (i * 2 + 1) (I q2) = zaE (l.set i (q1,q2)) from (zfH l i (q1,q2)).symm,<- hlen] at ho';exact zcy (Nat.le_refl _) ho' (by rw [hlen]; exact zkH ho) hg' (fun w2 h2=>by have:=(zaH h2).take L (by rw [hlen]; omega); rwa [hlen] at this)

theorem zfk {w : World} {g : Nat} {l : List (Int × Int)} (ho : zdh w g l) (i : Nat) (hi : i < l.length) (n : Int) : zdh (w.setCell ⟨g,i * 2 + 1,none⟩ (I n)) g (zcI l i n):=by
 have h:=(ho.stored (i * 2 + 1) (I n)).1
 unfold zdh
 rw [za7]
 have e : (zaE l).set (i * 2 + 1) (I n) = zaE (zcI l i n):=by
  unfold zcI
  rw [zfH]
  congr 1
  simp only []
  have h1:=(ze4 l i hi).1
  obtain ⟨hlt,h2⟩:=List.getElem?_eq_some_iff.1 h1
  rw [<- h2,List.set_getElem_self]
 rw [<- e]
 exact h

theorem zep {w : World} {g : Nat} {l : List (Int × Int)} (ho : zdh w g l) {n m : Nat} : (Value.slice (some ⟨g,0,none⟩) n m).ownBlock ≠ some w.heap.size:=zkH ho

theorem zoZ (l : List (Int × Int)) (g i b : Nat) (n : Int) (w : World) (ho : zdh w g l) (hi : i < l.length) (hb : w.cell? ⟨b,0,none⟩ = some (I n)) (hbl : b < w.heap.size)
  (hn : -1073741824 <= n /\ n <= 1073741824) (hm : -1073741824 <= num l i /\ num l i <= 1073741824) :
  Calls Tryz.prog 147 #[.slice (some ⟨g,0,none⟩) l.length l.length,I i,.pointer (some ⟨b,0,none⟩)] w fun e w' =>
   if -1073741824 <= num l i + n /\ num l i + n <= 1073741824 then zfS w g (zcI l i (num l i + n)) ⟨0,num l i + n⟩ e w' else zfS w g l ⟨3,0⟩ e w':=by
 have hg : g < w.heap.size:=(ho.lt g rfl).2;obtain ⟨hc1,hc2⟩:=zcz ho i hi;replace hc2 : w.cell? ⟨g,i * 2 + 1,none⟩ = some (I (num l i)):=hc2;clear hc1;have hf2 : w.frozen? ⟨g,i * 2 + 1,none⟩ = false:=ho.frozenAt _;have HO : Hid (∀ wx m,Ext w wx -> zdh (wx.setCell ⟨g,i * 2 + 1,none⟩ (I m)) g (zcI l i m)):=fun wx m hx=>zfk (zal ho hx) i hi m;generalize num l i = m at *;obtain ⟨n1,n2⟩:=hn;obtain ⟨m1,m2⟩:=hm;by_cases hs : -1073741824 <= m + n /\ m + n <= 1073741824
 ·simp only [hs,and_self,if_true];obtain ⟨s1,s2⟩:=hs;go_enter Tryz.func147,Tryz.ntmps147
  go_wp2_with fail
  go_quiet (fail)
  go_wp2_with (go_at_call 64; refine Calls.same (zc4 _ _ _ _) ?_)
  refine Calls.exts (zd7 _ _ _) (fun w1 e1=>?_);obtain ⟨c0,c1,f0,f1⟩:=zaN (zj4 hg) e1;have ho':=zal (HO.o _ _ (((Ext.refl w).alloc _).drewN _)) e1;have hg':=za6 (za6 ((((Ext.refl w).alloc _).drewN nq).grownBy (some g)) (zdn _ g (i * 2 + 1) (I (m + n)))) (e1.grownBy _);go_wp2
  try simp only [Exit.inBlock,Exit.then]
  refine bodyPost_ret (by simp [results,Tryz.results147,go_sem,c0,c1]; rfl) rfl ?_;exact zcy (Nat.le_refl _) ho' (zep ho) hg' (fun w2 h2=>by have:=zaH h2; rwa [za7] at this)
 ·simp only [hs,if_false];have hs2 : m + n < -1073741824 ∨ 1073741824 < m + n:=by omega
  clear hs;rcases hs2 with hs2 | hs2
  ·have d1 : decide (-1073741824 <= m + n) = false:=by simp; omega
   go_enter Tryz.func147,Tryz.ntmps147
   go_wp2_with fail
   go_quiet (fail)
   go_wp2_with (go_at_call 64; refine Calls.same (zc4 _ _ _ _) ?_)
   refine Calls.exts (zeB _ _ _) (fun w1 e1=>?_);obtain ⟨c0,c1,f0,f1⟩:=zaN (zgz w _ _) e1;have he : Ext w w1:=(((Ext.refl w).alloc _).drewN _).trans e1;go_wp2
   try simp only [Exit.inBlock,Exit.then]
   refine bodyPost_ret (by simp [results,Tryz.results147,go_sem,c0,c1]; rfl) rfl ?_;exact zcy (Nat.le_refl _) (zal ho he) (zep ho) (he.grownBy _) (fun w2 h2=>zaH h2)
  ·have d1 : decide (m + n <= 1073741824) = false:=by simp; omega
   go_enter Tryz.func147,Tryz.ntmps147
   go_wp2_with fail
   go_quiet (fail)
   go_wp2_with (go_at_call 64; refine Calls.same (zc4 _ _ _ _) ?_)
   refine Calls.exts (zeB _ _ _) (fun w1 e1=>?_);obtain ⟨c0,c1,f0,f1⟩:=zaN (zgz w _ _) e1;have he : Ext w w1:=(((Ext.refl w).alloc _).drewN _).trans e1;go_wp2
   try simp only [Exit.inBlock,Exit.then]
   refine bodyPost_ret (by simp [results,Tryz.results147,go_sem,c0,c1]; rfl) rfl ?_;exact zcy (Nat.le_refl _) (zal ho he) (zep ho) (he.grownBy _) (fun w2 h2=>zaH h2)

open Go.RowKit Go.Mk

theorem zov (l : List (Int × Int)) (g i b : Nat) (name : Int) (w : World) (ho : zdh w g l) (hi : i < l.length) (hb : w.cell? ⟨b,0,none⟩ = some (I name)) (hbl : b < w.heap.size) :
  Calls Tryz.prog 148 #[.slice (some ⟨g,0,none⟩) l.length l.length,I i,.pointer (some ⟨b,0,none⟩)] w fun e w' =>
   if at1 l name < l.length then zfS w g (zcI (zcI l i (num l (at1 l name))) (at1 l name) (num l i)) ⟨0,num l (at1 l name)⟩ e w' else zfS w g l ⟨6,0⟩ e w':=by
 have hg : g < w.heap.size:=(ho.lt g rfl).2;by_cases ha : at1 l name < l.length
 case neg =>
  simp only [ha,if_false];have hf : zey l name = -1:=by unfold zey; rw [if_neg ha]
  go_enter Tryz.func148,Tryz.ntmps148
  go_wp2_with fail
  refine Calls.exts (zeu _ l name _ (zaH (ho.alloc _))) (fun wa ea=>?_);rw [hf];go_wp2_with fail
  refine Calls.exts (zeB _ _ _) (fun w1 e1=>?_);obtain ⟨c0,c1,f0,f1⟩:=zaN (heap_alloc_new w _) (ea.trans e1);have he : Ext w w1:=(((Ext.refl w).alloc _).trans ea).trans e1;go_wp2
  try simp only [Exit.inBlock,Exit.then]
  refine bodyPost_ret (by simp [results,Tryz.results148,go_sem,c0,c1]; rfl) rfl ?_;exact zcy (Nat.le_refl _) (zal ho he) (zep ho) (he.grownBy _) (fun w2 h2=>zaH h2)
 simp only [ha,if_true];have hf : zey l name = (at1 l name : Int):=by unfold zey; rw [if_pos ha]
 generalize hA : at1 l name = A at *;have HS : Hid (∀ wx,Ext w wx -> zdh wx g l):=fun wx hx=>zal ho hx;go_enter Tryz.func148,Tryz.ntmps148
 go_wp2_with fail
 refine Calls.exts (zeu _ l name _ (zaH (ho.alloc _))) (fun wa ea=>?_);rw [hf];have hoa : zdh wa g l:=HS.o wa (((Ext.refl w).alloc _).trans ea);obtain ⟨k1,k2⟩:=zcz hoa i hi;obtain ⟨k3,k4⟩:=zcz hoa A ha;have f2 : wa.frozen? ⟨g,i * 2 + 1,none⟩ = false:=hoa.frozenAt _;have f4 : wa.frozen? ⟨g,A * 2 + 1,none⟩ = false:=hoa.frozenAt _;replace k2 : wa.cell? ⟨g,i * 2 + 1,none⟩ = some (I (num l i)):=k2;replace k4 : wa.cell? ⟨g,A * 2 + 1,none⟩ = some (I (num l A)):=k4;clear k1 k3
 have HW : Hid (∀ x y : Int,zdh (((wa.setCell ⟨g,i * 2 + 1,none⟩ (I x)).setCell ⟨g,A * 2 + 1,none⟩ (I y)).drew) g (zcI (zcI l i x) A y)):=fun x y =>
  zal (zfk (zfk hoa i hi x) A (by rw [za7]; exact ha) y) (Ext.refl _).drew
 have HG : Hid (∀ x y : Value,wa.grownBy (((wa.setCell ⟨g,i * 2 + 1,none⟩ x).setCell ⟨g,A * 2 + 1,none⟩ y).drew) (some g)):=fun x y =>
  zi5 (za6 (zdn _ _ _ _) (zdn _ _ _ _))
 have HB : Hid (∀ x y : Value,(((wa.setCell ⟨g,i * 2 + 1,none⟩ x).setCell ⟨g,A * 2 + 1,none⟩ y).drew).heap[w.heap.size]? = some (.cells #[I 0,I 0] 39)):=fun x y=>by
  show ((wa.setCell ⟨g,i * 2 + 1,none⟩ x).setCell ⟨g,A * 2 + 1,none⟩ y).heap[w.heap.size]? = _
  rw [Below.heap_setCell _ _ _ _ (fun e=>by simp only [] at e; omega),Below.heap_setCell _ _ _ _ (fun e=>by simp only [] at e; omega)];exact zbl ea
 have HN : Hid (num (zcI (zcI l i (num l A)) A (num l i)) i = num l A):=by
  unfold Hid;rw [zlp _ _ _ _ (by rw [za7]; exact ha),zlp _ _ _ _ hi,if_pos rfl];by_cases e : A = i
  ·rw [if_pos e,e]
  ·rw [if_neg e]
 generalize hm : num l i = m at *;have HM : Hid (num l i = m):=hm;clear hm;generalize hn : num l A = n at *;have HNA : Hid (num l A = n):=hn;clear hn;have hgw : w.grownBy wa (some g):=(((Ext.refl w).alloc _).trans ea).grownBy _;by_cases hiA : i = A
 ·subst hiA
  have hmn : n = m:=by
   have:=k2.symm.trans k4;simpa using this.symm
  subst hmn;go_wp2_with fail
  go_region
  have hob:=HW.o n n;have hgb:=HG.o (I n) (I n);have hbb:=HB.o (I n) (I n);have kb:=(zcz hob i (by rw [za7,za7]; exact hi)).2;generalize ((wa.setCell ⟨g,i * 2 + 1,none⟩ (I n)).setCell ⟨g,i * 2 + 1,none⟩ (I n)).drew = wb at *;replace kb : wb.cell? ⟨g,i * 2 + 1,none⟩ = some (I n):=by rw [kb]; exact congrArg (some ∘ I) HN.o
  clear k2 k4 f2 f4;go_wp2_with fail
  refine Calls.exts (zd7 _ _ _) (fun w1 e1=>?_);obtain ⟨c0,c1,f0,f1⟩:=zaN hbb e1;go_wp2
  try simp only [Exit.inBlock,Exit.then]
  refine bodyPost_ret (by simp [results,Tryz.results148,go_sem,c0,c1]; rfl) rfl ?_;rw [HNA.o];exact zcy (r:=⟨0,n⟩) (Nat.le_refl _) (zal hob e1) (zep ho) (za6 (za6 hgw hgb) (e1.grownBy _)) (fun w2 h2=>by have:=zaH h2; rwa [za7,za7] at this)
 ·have d1 : ¬ (i * 2 + 1 = A * 2 + 1):=by omega
  have d2 : ¬ (A * 2 + 1 = i * 2 + 1):=by omega
  go_wp2_with fail
  go_region
  have hob:=HW.o n m;have hgb:=HG.o (I n) (I m);have hbb:=HB.o (I n) (I m);have kb:=(zcz hob i (by rw [za7,za7]; exact hi)).2;generalize ((wa.setCell ⟨g,i * 2 + 1,none⟩ (I n)).setCell ⟨g,A * 2 + 1,none⟩ (I m)).drew = wb at *;replace kb : wb.cell? ⟨g,i * 2 + 1,none⟩ = some (I n):=by rw [kb]; exact congrArg (some ∘ I) HN.o
  clear k2 k4 f2 f4;go_wp2_with fail
  refine Calls.exts (zd7 _ _ _) (fun w1 e1=>?_);obtain ⟨c0,c1,f0,f1⟩:=zaN hbb e1;go_wp2
  try simp only [Exit.inBlock,Exit.then]
  refine bodyPost_ret (by simp [results,Tryz.results148,go_sem,c0,c1]; rfl) rfl ?_;rw [HNA.o,HM.o];exact zcy (r:=⟨0,n⟩) (Nat.le_refl _) (zal hob e1) (zep ho) (za6 (za6 hgw hgb) (e1.grownBy _)) (fun w2 h2=>by have:=zaH h2; rwa [za7,za7] at this)

theorem zpt (l : List (Int × Int)) (g b1 b2 : Nat) (name n : Int) (w : World) (ho : zdh w g l) (hr : (l.length + 1) * 16 <= 140737488355328) (h1 : w.cell? ⟨b1,0,none⟩ = some (I name)) (hb1 : b1 < w.heap.size) (h2 : w.cell? ⟨b2,0,none⟩ = some (I n)) :
  Calls Tryz.prog 144 #[.slice (some ⟨g,0,none⟩) l.length l.length,.pointer (some ⟨b1,0,none⟩),.pointer (some ⟨b2,0,none⟩)] w fun e w' =>
   if at1 l name < l.length then zfS w g (zcI l (at1 l name) n) ⟨0,num l (at1 l name)⟩ e w' else if 5 <= l.length then zfS w g l ⟨9,0⟩ e w' else zfS w g (l ++ [(name,n)]) ⟨0,0⟩ e w':=by
 have hg : g < w.heap.size:=(ho.lt g rfl).2;obtain ⟨i0,hi0,hz0,hz1,hz2⟩:=info_parts Tryz.infoWrite2;by_cases ha : at1 l name < l.length
 ·simp only [ha,if_true];have hf : zey l name = (at1 l name : Int):=by unfold zey; rw [if_pos ha]
  generalize hA : at1 l name = A at *;have HS : Hid (∀ wx,Ext w wx -> zdh wx g l):=fun wx hx=>zal ho hx;go_enter Tryz.func144,Tryz.ntmps144
  go_wp2_with fail
  refine Calls.exts (zeu _ l name _ (zaH (ho.alloc _))) (fun wa ea=>?_);rw [hf];have hea : Ext w wa:=((Ext.refl w).alloc _).trans ea;have hoa : zdh wa g l:=HS.o wa hea;obtain ⟨_,k2⟩:=zcz hoa A ha;have f2 : wa.frozen? ⟨g,A * 2 + 1,none⟩ = false:=hoa.frozenAt _;replace k2 : wa.cell? ⟨g,A * 2 + 1,none⟩ = some (I (num l A)):=k2;have g2:=hea.cell h2;have hob:=zfk hoa A ha n;have hgb : w.grownBy _ (some g):=za6 (hea.grownBy (some g)) (zdn wa g (A * 2 + 1) (I n))
  have hbb : (wa.setCell ⟨g,A * 2 + 1,none⟩ (I n)).heap[w.heap.size]? = some (.cells #[I 0,I 0] 39):=by
   rw [Below.heap_setCell _ _ _ _ (fun e=>by simp only [] at e; omega)];exact zbl ea
  go_wp2_with fail
  refine Calls.exts (zd7 _ _ _) (fun w1 e1=>?_);obtain ⟨c0,c1,f0,f1⟩:=zaN hbb e1;go_wp2
  try simp only [Exit.inBlock,Exit.then]
  refine bodyPost_ret (by simp [results,Tryz.results144,go_sem,c0,c1]; rfl) rfl ?_;exact zcy (Nat.le_refl _) (zal hob e1) (zep ho) (za6 hgb (e1.grownBy _)) (fun w2 h2=>by have:=zaH h2; rwa [za7] at this)
 simp only [ha,if_false];have hf : zey l name = -1:=by unfold zey; rw [if_neg ha]
 by_cases h5 : 5 <= l.length
 ·simp only [h5,if_true];have h5' : (5 : Int) <= (l.length : Int):=by omega
  go_enter Tryz.func144,Tryz.ntmps144
  go_wp2_with fail
  refine Calls.exts (zeu _ l name _ (zaH (ho.alloc _))) (fun wa ea=>?_);rw [hf];go_wp2_with fail
  refine Calls.exts (zeB _ _ _) (fun w1 e1=>?_);obtain ⟨c0,c1,f0,f1⟩:=zaN (heap_alloc_new w _) (ea.trans e1);have he : Ext w w1:=(((Ext.refl w).alloc _).trans ea).trans e1;go_wp2
  try simp only [Exit.inBlock,Exit.then]
  refine bodyPost_ret (by simp [results,Tryz.results144,go_sem,c0,c1]; rfl) rfl ?_;exact zcy (Nat.le_refl _) (zal ho he) (zep ho) (he.grownBy _) (fun w2 h2=>zaH h2)
 ·simp only [h5,if_false];have h5' : (l.length : Int) < 5:=by omega
  go_enter Tryz.func144,Tryz.ntmps144
  go_wp2_with fail
  refine Calls.exts (zeu _ l name _ (zaH (ho.alloc _))) (fun wa ea=>?_);rw [hf];have hea : Ext w wa:=((Ext.refl w).alloc _).trans ea;have g1:=hea.cell h1;have g2:=hea.cell h2;have hoa : zdh wa g l:=zal ho hea;have hba:=zbl ea;have hsa : g <= wa.heap.size:=Nat.le_trans (Nat.le_of_lt hg) hea.size;have hbs : w.heap.size < wa.heap.size:=(Array.getElem?_eq_some_iff.1 hba).1;go_wp2_with (at_builtin; refine zaF _ rfl _ _ 27 rfl g 91 i0 (.agg #[.int .i64 0,.int .i64 0]) 2 16 zu27 hi0 hz0 hz1 hz2 rfl (by decide) _ _ _ rfl (hoa.alloc _) _ rfl 1 [I name,I n] (zcE (l:=[(name,n)]) _ _ 1 rfl rfl (by decide)) (zbE [(name,n)]) (by omega) (by decide) (by simp; omega) ?_; intro v' w3 ho3 hg3)
  have hb3 : w3.heap[w.heap.size]? = some (.cells #[I 0,I 0] 39):=by
   have hg4 : (wa.alloc (.cells #[I name,I n] 91)).grownBy w3 (some g):=hg3;rw [hg4.block w.heap.size (by simp; omega) (fun e=>by have e2 : w.heap.size = g:=Option.some.inj e; omega),heap_alloc_old _ _ hbs];exact hba
  have hgw : w.grownBy w3 (some g):=za6 ((hea.alloc _).grownBy _) hg3;refine Calls.exts (zd7 _ _ _) (fun w1 e1=>?_);obtain ⟨c0,c1,f0,f1⟩:=zaN hb3 e1;go_wp2
  try simp only [Exit.inBlock,Exit.then]
  refine bodyPost_ret (by simp [results,Tryz.results144,go_sem,c0,c1]; rfl) rfl ?_;rw [show zaE l ++ [I name,I n] = zaE (l ++ [(name,n)]) from (zbs l [(name,n)]).symm] at ho3;exact zcy (Nat.le_refl _) (zal ho3 e1) (za4 ho3 hb3 (by decide)) (za6 hgw (e1.grownBy _)) (fun w2 h2=>zaH h2)

open Go.RowKit Go.Mk

def zcu (F : FuncId) : Prop:=∀ (args : Array Value) (w : World),(callFunc F args).run Tryz.prog w = .ok (.enter F args) w
theorem enters_get : zcu 136:=fun _ _=>by kernel_rfl
theorem enters_drop : zcu 137:=fun _ _=>by kernel_rfl
theorem enters_add : zcu 147:=fun _ _=>by kernel_rfl
theorem enters_swap : zcu 148:=fun _ _=>by kernel_rfl
theorem enters_there : zcu 146:=fun _ _=>by kernel_rfl
theorem enters_put : zcu 144:=fun _ _=>by kernel_rfl
theorem enters_count : zcu 133:=fun _ _=>by kernel_rfl
theorem zmZ (F : FuncId) (caps : Array Value) (l : List (Int × Int)) (g b1 b2 : Nat) (name : Int) (w : World) (l' : List (Int × Int)) (r : Rp) (ho : zdh w g l) (h1 : w.cell? ⟨b1,0,none⟩ = some (I name)) (hb1 : b1 < w.heap.size)
  (h2 : w.cell? ⟨b2,0,none⟩ = some (.func (.func F) #[] caps))
  (hE : zcu F) (hF : at1 l name < l.length -> ∀ wa,Ext w wa -> Calls Tryz.prog F (#[.slice (some ⟨g,0,none⟩) l.length l.length,I (at1 l name)] ++ caps) wa fun e w'=>zfS wa g l' r e w') :
  Calls Tryz.prog 146 #[.slice (some ⟨g,0,none⟩) l.length l.length,.pointer (some ⟨b1,0,none⟩),.pointer (some ⟨b2,0,none⟩)] w fun e w' =>
   if at1 l name < l.length then zfS w g l' r e w' else zfS w g l ⟨6,0⟩ e w':=by
 have hg : g < w.heap.size:=(ho.lt g rfl).2;by_cases ha : at1 l name < l.length
 case neg =>
  simp only [ha,if_false];have hf : zey l name = -1:=by unfold zey; rw [if_neg ha]
  clear hF;go_enter Tryz.func146,Tryz.ntmps146
  go_wp2_with fail
  refine Calls.exts (zeu _ l name _ (zaH (ho.alloc _))) (fun wa ea=>?_);rw [hf];go_wp2_with fail
  refine Calls.exts (zeB _ _ _) (fun w1 e1=>?_);obtain ⟨c0,c1,f0,f1⟩:=zaN (heap_alloc_new w _) (ea.trans e1);have he : Ext w w1:=(((Ext.refl w).alloc _).trans ea).trans e1;go_wp2
  try simp only [Exit.inBlock,Exit.then]
  refine bodyPost_ret (by simp [results,Tryz.results146,go_sem,c0,c1]; rfl) rfl ?_;exact zcy (Nat.le_refl _) (zal ho he) (zep ho) (he.grownBy _) (fun w2 h2=>zaH h2)
 simp only [ha,if_true];have hf : zey l name = (at1 l name : Int):=by unfold zey; rw [if_pos ha]
 have HF : Hid (∀ wa,Ext w wa -> Calls Tryz.prog F (#[.slice (some ⟨g,0,none⟩) l.length l.length,I (at1 l name)] ++ caps) wa fun e w'=>zfS wa g l' r e w'):=hF ha;clear hF;generalize hA : at1 l name = A at *;go_enter Tryz.func146,Tryz.ntmps146
 go_wp2_with fail
 refine Calls.exts (zeu _ l name _ (zaH (ho.alloc _))) (fun wa ea=>?_);rw [hf];have hea : Ext w wa:=((Ext.refl w).alloc _).trans ea;have g2:=hea.cell h2;have hE2:=hE;unfold zcu at hE2;go_wp2_with fail
 refine (HF.o wa hea).mono ?_;rintro e w1 ⟨u,v,n,lo,rfl,hov,hu,hgr⟩
 have hb1 : w1.heap[w.heap.size]? = some (.cells #[I 0,I 0] 39):=by
  rw [hgr.block w.heap.size (Array.getElem?_eq_some_iff.1 (zbl ea)).1 (fun e=>by have e2 : w.heap.size = g:=Option.some.inj e; omega)];exact zbl ea
 obtain ⟨c0,c1,f0,f1⟩:=zaN hb1 (Ext.refl w1);clear hE2;go_wp2
 try simp only [Exit.inBlock,Exit.then]
 refine bodyPost_ret (by simp [results,Tryz.results146,go_sem,c0,c1]; rfl) rfl ?_;exact zcy (Nat.le_refl _) hov (za4 hov hb1 (by decide)) (za6 (hea.grownBy _) hgr) hu

open Go.RowKit Go.Mk

def zg5 (c : Cl) (v : Value) (w : World) : Prop:=∃ F caps,v = .func (.func F) #[] caps /\ zcu F /\ ∀ l g wa,Ext w wa -> zdh wa g l -> Okw l -> Calls Tryz.prog F (#[.slice (some ⟨g,0,none⟩) l.length l.length] ++ caps) wa fun e w'=>zfS wa g (zbr l c).1 (zbr l c).2 e w'

def zgA (c : Cl) (v : Value) (w : World) : Prop:=∃ F caps,v = .func (.func F) #[] caps /\ zcu F /\ ∀ l g wa,Ext w wa -> zdh wa g l -> Okw l -> at1 l c.name < l.length -> Calls Tryz.prog F (#[.slice (some ⟨g,0,none⟩) l.length l.length,I (at1 l c.name)] ++ caps) wa fun e w'=>zfS wa g (zbr l c).1 (zbr l c).2 e w'

theorem zlg (c : Cl) : ∀ v,zcn (zg5 c v):=fun _ _ _ he ⟨F,caps,h1,h2,h3⟩=>⟨F,caps,h1,h2,fun l g wa hx=>h3 l g wa (he.trans hx)⟩

theorem zlf (c : Cl) : ∀ v,zcn (zgA c v):=fun _ _ _ he ⟨F,caps,h1,h2,h3⟩=>⟨F,caps,h1,h2,fun l g wa hx=>h3 l g wa (he.trans hx)⟩

theorem zod (a o n : Int) (w : World) : zgA ⟨2,a,o,n⟩ (.func (.func 136) #[] #[]) w :=
 ⟨_,_,rfl,enters_get,fun l g wa _ ho _ ha=>(zpo l g _ wa ho ha).mono fun e w' h=>by rw [ziy,if_neg (by simpa using ha)]; exact h⟩

theorem zm2 (a o n : Int) (w : World) : zgA ⟨3,a,o,n⟩ (.func (.func 137) #[] #[]) w :=
 ⟨_,_,rfl,enters_drop,fun l g wa _ ho hk ha=>(zoV l g _ wa ho ha (by have:=hk.len; omega)).mono fun e w' h=>by rw [zgp,if_neg (by simpa using ha)]; exact h⟩

theorem zlS (a o n : Int) (w : World) : zg5 ⟨5,a,o,n⟩ (.func (.func 133) #[] #[]) w :=
 ⟨_,_,rfl,enters_count,fun l g wa _ ho _=>zno l g wa ho⟩

theorem znv (a o n : Int) (w : World) : Calls Tryz.prog 134 #[I a,I n] w fun e w'=>∃ r,e = .returned r /\ Ext w w' /\ zg5 ⟨1,a,o,n⟩ r w':=by
 have hmf:=zdr;go_enter Tryz.func134,Tryz.ntmps134
 go_wp2
 go_ret
 refine ⟨_,rfl,((Ext.refl w).alloc _).alloc _,_,_,rfl,enters_put,fun l g wa hx ho hk=>?_⟩;have q1:=hx.cell (p:=⟨w.heap.size,0,none⟩) (v:=I a) (by simp);have q2:=hx.cell (p:=⟨w.heap.size + 1,0,none⟩) (v:=I n) (by simp);refine (zpt l g _ _ a n wa ho (by have:=hk.len; omega) q1 (zdq q1) q2).mono fun e w' h=>?_;rw [zic];by_cases ha : at1 l a < l.length
 ·rw [if_pos ha] at h ⊢; exact h
 ·rw [if_neg ha] at h ⊢;by_cases h5 : 5 <= l.length
  ·rw [if_pos h5] at h ⊢; exact h
  ·rw [if_neg h5] at h ⊢; exact h

theorem zeH (c : Cl) (v : Value) (w : World) (hv : zgA c v w) (hno : ∀ l,¬ at1 l c.name < l.length -> zbr l c = (l,⟨6,0⟩)) : Calls Tryz.prog 135 #[I c.name,v] w fun e w'=>∃ r,e = .returned r /\ Ext w w' /\ zg5 c r w':=by
 have hmf:=zdr;obtain ⟨F,caps,rfl,hE,hF⟩:=hv;have HF : Hid _:=hF;have HE : Hid (zcu F):=hE;clear hF hE;go_enter Tryz.func135,Tryz.ntmps135
 go_wp2
 go_ret
 refine ⟨_,rfl,((Ext.refl w).alloc _).alloc _,_,_,rfl,enters_there,fun l g wa hx ho hk=>?_⟩;have hw : Ext w wa:=(((Ext.refl w).alloc _).alloc _).trans hx;have q1:=hx.cell (p:=⟨w.heap.size,0,none⟩) (v:=I c.name) (by simp);have q2:=hx.cell (p:=⟨w.heap.size + 1,0,none⟩) (v:=.func (.func F) #[] caps) (by simp);refine (zmZ F caps l g _ _ c.name wa (zbr l c).1 (zbr l c).2 ho q1 (zdq q1) q2 HE.o (fun ha wb hb=>HF.o l g wb (hw.trans hb) (zal ho hb) hk ha)).mono fun e w' h=>?_;by_cases ha : at1 l c.name < l.length
 ·rw [if_pos ha] at h; exact h
 ·rw [if_neg ha] at h; rw [hno l ha]; exact h

theorem zny (a o n : Int) (w : World) (hn : -1073741824 <= n /\ n <= 1073741824) : Calls Tryz.prog 138 #[I n] w fun e w'=>∃ r,e = .returned r /\ Ext w w' /\ zgA ⟨4,a,o,n⟩ r w':=by
 have hmf:=zdr;go_enter Tryz.func138,Tryz.ntmps138
 go_wp2
 go_ret
 refine ⟨_,rfl,(Ext.refl w).alloc _,_,_,rfl,enters_add,fun l g wa hx ho hk ha=>?_⟩;have q1:=hx.cell (p:=⟨w.heap.size,0,none⟩) (v:=I n) (by simp);refine (zoZ l g _ _ n wa ho ha q1 (zdq q1) hn (hk.at ha).2.2).mono fun e w' h=>?_;rw [zhm,if_neg (by simpa using ha)];by_cases hs : -1073741824 <= num l (at1 l a) + n /\ num l (at1 l a) + n <= 1073741824
 ·rw [if_pos hs] at h;rw [if_neg (by simpa using hs)]; exact h
 ·rw [if_neg hs] at h;rw [if_pos hs]; exact h

theorem zmj (a o n : Int) (w : World) : Calls Tryz.prog 139 #[I o] w fun e w'=>∃ r,e = .returned r /\ Ext w w' /\ zgA ⟨6,a,o,n⟩ r w':=by
 have hmf:=zdr;go_enter Tryz.func139,Tryz.ntmps139
 go_wp2
 go_ret
 refine ⟨_,rfl,(Ext.refl w).alloc _,_,_,rfl,enters_swap,fun l g wa hx ho hk ha=>?_⟩;have q1:=hx.cell (p:=⟨w.heap.size,0,none⟩) (v:=I o) (by simp);refine (zov l g _ _ o wa ho ha q1 (zdq q1)).mono fun e w' h=>?_;rw [zfv,if_neg (by simpa using ha)];by_cases hs : at1 l o < l.length
 ·rw [if_pos hs] at h;rw [if_neg (by simpa using hs)]; exact h
 ·rw [if_neg hs] at h;rw [if_pos hs]; exact h

open Go.RowKit Go.Mk

theorem zl8 (k a o n : Int) (w : World) (hc : wrongCl ⟨k,a,o,n⟩ = 0) : Calls Tryz.prog 123 #[.agg #[I k,I a,I o,I n]] w fun e w'=>∃ r,e = .returned r /\ Ext w w' /\ zg5 ⟨k,a,o,n⟩ r w':=by
 obtain ⟨hk,hn⟩:=zem hc;have HN : Hid (k = 1 ∨ k = 4 -> -1073741824 <= n /\ n <= 1073741824):=hn;clear hc hn;have he0 : Ext w (w.alloc (.cells #[I k,I a,I o,I n] 34)):=(Ext.refl w).alloc _;rcases hk with rfl | rfl | rfl | rfl | rfl | rfl
 ·go_enter Tryz.func123,Tryz.ntmps123
  go_wp2_with fail
  refine (znv a o n _).mono ?_;rintro e w1 ⟨r,rfl,he,hd⟩
  go_wp2
  go_ret
  exact ⟨_,rfl,he0.trans he,hd⟩
 ·go_enter Tryz.func123,Tryz.ntmps123
  go_wp2_with fail
  refine (zeH ⟨2,a,o,n⟩ _ _ (zod a o n _) (fun l ha=>by rw [ziy,if_pos ha])).mono ?_;rintro e w1 ⟨r,rfl,he,hd⟩
  go_wp2
  go_ret
  exact ⟨_,rfl,he0.trans he,hd⟩
 ·go_enter Tryz.func123,Tryz.ntmps123
  go_wp2_with fail
  refine (zeH ⟨3,a,o,n⟩ _ _ (zm2 a o n _) (fun l ha=>by rw [zgp,if_pos ha])).mono ?_;rintro e w1 ⟨r,rfl,he,hd⟩
  go_wp2
  go_ret
  exact ⟨_,rfl,he0.trans he,hd⟩
 ·have q1 : (w.alloc (.cells #[I 4,I a,I o,I n] 34)).cell? ⟨w.heap.size,1,none⟩ = some (I a):=by simp
  have q3 : (w.alloc (.cells #[I 4,I a,I o,I n] 34)).cell? ⟨w.heap.size,3,none⟩ = some (I n):=by simp
  have HQ1 : Hid _:=q1;have HQ3 : Hid _:=q3;clear q1 q3;go_enter Tryz.func123,Tryz.ntmps123
  go_wp2_with fail
  refine zcr [none,none,none,none,some (.inr (zgA ⟨4,a,o,n⟩)),some (.inr (zg5 ⟨4,a,o,n⟩)),none] (by kernel_rfl) (by kernel_rfl) ?_ ?_
  ·exact ⟨trivial,trivial,trivial,trivial,zlf _,zlg _,trivial,trivial⟩
  (refine zau (fun K hK=>?_); go_simp; refine hK _ ?_; clear hK K)
  refine zay (I a) rfl (fun w' hw'=>by have t1:=hw'.cell HQ1.o; go_simp) ?_;(refine zau (fun K hK=>?_); go_simp; refine hK _ ?_; clear hK K)
  refine zay (I n) rfl (fun w' hw'=>by have t1:=hw'.cell HQ3.o; go_simp) ?_;refine za8 _ rfl (fun w' hw' _=>?_) (fun v30=>?_)
  ·have hg:=zny a o n w' (HN.o (by simp));unfold zaS;go_simp
   exact ⟨Ext.refl _,hg⟩
  refine za8 _ rfl (fun w' hw' hk=>?_) (fun v31=>?_)
  ·have h7 : zgA ⟨4,a,o,n⟩ v30 w':=hk 30 (by decide);have hg:=zeH ⟨4,a,o,n⟩ v30 w' h7 (fun l ha=>by rw [zhm,if_pos ha]);clear hk h7;unfold zaS;go_simp
   exact ⟨Ext.refl _,hg⟩
  (refine zau (fun K hK=>?_); go_simp; refine hK _ ?_; clear hK K)
  refine za2 ?_;intro w2 he2 hF;have hd : zg5 ⟨4,a,o,n⟩ v31 w2:=hF 31;go_wp2
  go_ret
  exact ⟨_,rfl,he0.trans he2,hd⟩
 ·go_enter Tryz.func123,Tryz.ntmps123
  go_wp2
  go_ret
  exact ⟨_,rfl,he0,zlS a o n _⟩
 ·have q1 : (w.alloc (.cells #[I 6,I a,I o,I n] 34)).cell? ⟨w.heap.size,1,none⟩ = some (I a):=by simp
  have q3 : (w.alloc (.cells #[I 6,I a,I o,I n] 34)).cell? ⟨w.heap.size,2,none⟩ = some (I o):=by simp
  have HQ1 : Hid _:=q1;have HQ3 : Hid _:=q3;clear q1 q3;go_enter Tryz.func123,Tryz.ntmps123
  go_wp2_with fail
  refine zcr [none,none,none,none,some (.inr (zgA ⟨6,a,o,n⟩)),some (.inr (zg5 ⟨6,a,o,n⟩)),none] (by kernel_rfl) (by kernel_rfl) ?_ ?_
  ·exact ⟨trivial,trivial,trivial,trivial,zlf _,zlg _,trivial,trivial⟩
  (refine zau (fun K hK=>?_); go_simp; refine hK _ ?_; clear hK K)
  refine zay (I a) rfl (fun w' hw'=>by have t1:=hw'.cell HQ1.o; go_simp) ?_;(refine zau (fun K hK=>?_); go_simp; refine hK _ ?_; clear hK K)
  refine zay (I o) rfl (fun w' hw'=>by have t1:=hw'.cell HQ3.o; go_simp) ?_;refine za8 _ rfl (fun w' hw' _=>?_) (fun v30=>?_)
  ·have hg:=zmj a o n w';unfold zaS;go_simp
   exact ⟨Ext.refl _,hg⟩
  refine za8 _ rfl (fun w' hw' hk=>?_) (fun v31=>?_)
  ·have h7 : zgA ⟨6,a,o,n⟩ v30 w':=hk 38 (by decide);have hg:=zeH ⟨6,a,o,n⟩ v30 w' h7 (fun l ha=>by rw [zfv,if_pos ha]);clear hk h7;unfold zaS;go_simp
   exact ⟨Ext.refl _,hg⟩
  (refine zau (fun K hK=>?_); go_simp; refine hK _ ?_; clear hK K)
  refine za2 ?_;intro w2 he2 hF;have hd : zg5 ⟨6,a,o,n⟩ v31 w2:=hF 39;go_wp2
  go_ret
  exact ⟨_,rfl,he0.trans he2,hd⟩

def zje (base : Nat) (l : List (Int × Int)) (c : Cl) (r : Value) (w : World) : Prop:=∃ u,r = .tuple #[u,(zbr l c).2.val] /\ Has base w u (zbr l c).1

theorem zps (v : Value) (l : List (Int × Int)) (k a o n : Int) (w : World) (hv : zaC w v l) (hl : Okw l) (hc : wrongCl ⟨k,a,o,n⟩ = 0) : Calls Tryz.prog 115 #[v,.agg #[I k,I a,I o,I n]] w fun e w'=>∃ r,e = .returned r /\ Ext w w' /\ zje w.heap.size l ⟨k,a,o,n⟩ r w':=by
 have he0 : Ext w ((w.alloc (.cells #[I k,I a,I o,I n] 34)).alloc (.cells #[I 0,I 0] 39)):=((Ext.refl w).alloc _).alloc _
 have hbx : ((w.alloc (.cells #[I k,I a,I o,I n] 34)).alloc (.cells #[I 0,I 0] 39)).heap[w.heap.size + 1]? = some (.cells #[I 0,I 0] 39):=by
  have:=heap_alloc_new (w.alloc (.cells #[I k,I a,I o,I n] 34)) (.cells #[I 0,I 0] 39);simpa using this
 have HBX : Hid _:=hbx;clear hbx;go_enter Tryz.func115,Tryz.ntmps115
 go_wp2_with fail
 refine (zl8 k a o n _ hc).mono ?_;rintro e w1 ⟨r,rfl,e1,F,caps,rfl,hE,hF⟩
 have HF : Hid _:=hF;clear hF;unfold zcu at hE;have hw1 : Ext w w1:=he0.trans e1;go_wp2_with fail
 refine (zoG v l w1 (hv.ext hw1) (by have:=hl.len; omega)).mono ?_;rintro e w2 ⟨rfl,ho,e2⟩
 have hs1 : w.heap.size + 1 < w1.heap.size:=by have:=e1.size; simp at this; omega
 generalize hgs : w1.heap.size = g at *;go_wp2_with fail
 refine (HF.o l g w2 e2 ho hl).mono ?_;rintro e w3 ⟨u,x,m,lo,rfl,hov,hu,hgr⟩
 have hb3 : w3.heap[w.heap.size + 1]? = some (.cells #[I 0,I 0] 39):=by
  rw [hgr.block (w.heap.size + 1) (by have:=e2.size; omega) (fun e=>by have e2 : w.heap.size + 1 = g:=Option.some.inj e; omega),e2.block _ (by omega),e1.block _ (by simp)];exact HBX.o
 obtain ⟨c0,c1,f0,f1⟩:=zaN hb3 (Ext.refl w3);have hw3 : Ext w w3:=(hw1.trans e2).grown hgr (fun k hk=>by cases hk; omega);clear hE;generalize hD : zbr l ⟨k,a,o,n⟩ = D at *;have HD : Hid (zbr l ⟨k,a,o,n⟩ = D):=hD;clear hD;obtain ⟨D1,D2,D3⟩:=D;go_wp2
 try simp only [Exit.inBlock,Exit.then]
 refine bodyPost_ret (by simp [results,Tryz.results115,go_sem,c0,c1]; rfl) rfl ?_;have hne:=za4 hov hb3 (by decide);refine ⟨_,rfl,(hw3.setCell (Nat.le_succ _) _).setCell (Nat.le_succ _) _,u,?_,?_⟩
 ·rw [HD.o]
 ·rw [HD.o]; exact Has.low ⟨x,m,lo,zbp (zbp hov hne _ _) hne _ _,hu⟩ (by omega)

open Go.RowKit Go.Mk

end Go.Proofs.YtikbhmnjlmbeeaeGreat

/- Texts of the proof, merged: M4 M5 M6 M7 M8 W5 M9 P1. -/
import Derived.Test.YtdmipnnfoolelagGreatKTA
import Derived.Test.YtdmipnnfoolelagGreatKT4
import Derived.Test.YtdmipnnfoolelagGreatKTB
import Derived.Test.YtdmipnnfoolelagGreatKTK
import Derived.Test.YtdmipnnfoolelagGreatKTP
import Derived.Test.YtdmipnnfoolelagGreatKTC
set_option maxHeartbeats 1000000
set_option maxRecDepth 100000

namespace Go.Proofs.YtdmipnnfoolelagGreat
open Go.RowKit Go.Mk

def zgA (w:World) (g:Nat) (l:List (Int×Int)) (r:Rp) (e:Ending) (w':World):Prop :=
 ∃ u v n lo,e=.returned (.tuple #[u,.agg #[I r.err,I r.n]])/\w'.ownsRow g 73 2 v n (zaz lo)/\(∀ w2:World,w2.ownsRow g 73 2 v n (zaz lo)->zaw w2 u l)/\w.grownBy w' (some g)

abbrev zdC (w:World) (g:Nat) (l:List (Int×Int)):Prop:=w.ownsRow g 73 2 (.slice (some ⟨g,0,none⟩) l.length l.length) l.length (zaz l)

theorem zcH {w w1:World} {g b n:Nat} {u v x y:Value} {l l':List (Int×Int)} {r:Rp} (hb:w.heap.size<=b) (ho:w1.ownsRow g 73 2 v n (zaz l)) (hv:v.ownBlock≠some b) (hg:w.grownBy w1 (some g))
  (hu:∀ w2:World,w2.ownsRow g 73 2 v n (zaz l)->zaw w2 u l'):zgA w g l' r (.returned (.tuple #[u,.agg #[I r.err,I r.n]])) ((w1.setCell ⟨b,0,none⟩ x).setCell ⟨b,1,none⟩ y) :=
 ⟨u,v,n,l,rfl,zbq (zbq ho hv _ _) hv _ _,hu,zkE (zkE hg hb _ _) hb _ _⟩

theorem zkU {w:World} {g:Nat} {l:List (Int×Int)} (ho:zdC w g l):(Value.slice (some ⟨g,0,none⟩) l.length l.length).ownBlock≠some w.heap.size:=fun e=>by
 have h:=(ho.lt g rfl).2
 have e2:g=w.heap.size:=by simpa [Value.ownBlock] using e
 rw [e2] at h
 exact Nat.lt_irrefl _ h

theorem zok (l:List (Int×Int)) (g:Nat) (w:World) (ho:zdC w g l) :
  Calls Tryz.prog 133 #[.slice (some ⟨g,0,none⟩) l.length l.length] w fun e w'=>zgA w g l ⟨0,l.length⟩ e w':=by
 go_enter Tryz.func133,Tryz.ntmps133
 go_wp2_with fail
 refine Calls.exts (zeu _ _ _) (fun w1 e1=>?_);obtain ⟨c0,c1,f0,f1⟩:=zlE e1;go_wp2
 try simp only [Exit.inBlock,Exit.then]
 refine bodyPost_ret (by simp [results,Tryz.results133,go_sem,c0,c1]; rfl) rfl ?_;have he:Ext w w1:=((Ext.refl w).alloc _).trans e1;exact zcH (Nat.le_refl _) (zak ho he) (zkU ho) (he.grownBy _) (fun w2 h2=>zaA h2)

theorem zcJ {w:World} {g:Nat} {l:List (Int×Int)} (ho:zdC w g l) (i:Nat) (hi:i < l.length):w.cell? ⟨g,i * 2,none⟩=some (I (l.getD i (0,0)).1)/\w.cell? ⟨g,i * 2+1,none⟩=some (I (l.getD i (0,0)).2):=by
 obtain ⟨a,b⟩:=zfF l i hi
 rw [<- ho.cellAt _ (by omega)] at a b
 exact ⟨a,b⟩

theorem zq1 (l:List (Int×Int)) (g i:Nat) (w:World) (ho:zdC w g l) (hi:i < l.length) :
  Calls Tryz.prog 136 #[.slice (some ⟨g,0,none⟩) l.length l.length,I i] w fun e w'=>zgA w g l ⟨0,num l i⟩ e w':=by
 have hc:∀ o,(w.alloc o).cell? ⟨g,i * 2+1,none⟩=some (I (num l i)):=fun o=>(zcJ (ho.alloc o) i hi).2;go_enter Tryz.func136,Tryz.ntmps136
 go_wp2_with fail
 refine Calls.exts (zeu _ _ _) (fun w1 e1=>?_);obtain ⟨c0,c1,f0,f1⟩:=zlE e1;go_wp2
 try simp only [Exit.inBlock,Exit.then]
 refine bodyPost_ret (by simp [results,Tryz.results136,go_sem,c0,c1]; rfl) rfl ?_;have he:Ext w w1:=((Ext.refl w).alloc _).trans e1;exact zcH (Nat.le_refl _) (zak ho he) (zkU ho) (he.grownBy _) (fun w2 h2=>zaA h2)

theorem zpq (l:List (Int×Int)) (g i:Nat) (w:World) (ho:zdC w g l) (hi:i < l.length) (hr:l.length * 16<=140737488355328) :
  Calls Tryz.prog 137 #[.slice (some ⟨g,0,none⟩) l.length l.length,I i] w fun e w'=>zgA w g ((l.set i (l.getD (l.length - 1) (0,0))).take (l.length - 1)) ⟨0,num l i⟩ e w':=by
 have hg:g < w.heap.size:=(ho.lt g rfl).2;obtain ⟨hc1,hc2⟩:=zcJ ho i hi;obtain ⟨hc3,hc4⟩:=zcJ ho (l.length - 1) (by omega);have hf1:w.frozen? ⟨g,i * 2,none⟩=false:=ho.frozenAt _;have hf2:w.frozen? ⟨g,i * 2+1,none⟩=false:=ho.frozenAt _;have HN:Hid (num l i=(l.getD i (0,0)).2):=rfl;generalize hL:l.length - 1=L at *;have hLi:(l.length:Int) - 1=(L:Int):=by omega
 have hLl:(L:Int) < (l.length:Int):=by omega
 have hLt:(L:Int).toNat=L:=by omega
 have HL:Hid (l.length - 1=L):=hL;clear hL;generalize hQ:l.getD L (0,0)=q at *;have HQ:Hid (l.getD L (0,0)=q):=hQ;clear hQ;generalize hP:l.getD i (0,0)=p at *;obtain ⟨p1,p2⟩:=p;obtain ⟨q1,q2⟩:=q;simp only [] at hc1 hc2 hc3 hc4;rw [HN.o];clear hP HN;go_enter Tryz.func137,Tryz.ntmps137
 go_wp2_with fail
 refine Calls.exts (zeu _ _ _) (fun w1 e1=>?_);obtain ⟨c0,c1,f0,f1⟩:=zrD w.heap.size e1 (by simp);have s1:=ho.stored (i * 2) (I q1);have s2:=s1.1.stored (i * 2+1) (I q2);have ho':=zak s2.1 (((Ext.refl _).alloc _).trans e1);have hg':=za2 (za2 s1.2 s2.2) ((((Ext.refl _).alloc _).trans e1).grownBy _);clear s1 s2 hc1 hc2 hc3 hc4 hf1 hf2 e1;go_wp2
 try simp only [Exit.inBlock,Exit.then]
 refine bodyPost_ret (by simp [results,Tryz.results137,go_sem,c0,c1]; rfl) rfl ?_;have hlen:(l.set i (q1,q2)).length=l.length:=by simp
 rw [show ((zaz l).set (i * 2) (I q1)).set (i * 2+1) (I q2)=zaz (l.set i (q1,q2)) from (zfY l i (q1,q2)).symm,<- hlen] at ho';exact zcH (Nat.le_refl _) ho' (by rw [hlen]; exact zkU ho) hg' (fun w2 h2=>by have:=(zaA h2).take L (by rw [hlen]; omega); rwa [hlen] at this)

theorem zfN {w:World} {g:Nat} {l:List (Int×Int)} (ho:zdC w g l) (i:Nat) (hi:i < l.length) (n:Int):zdC (w.setCell ⟨g,i * 2+1,none⟩ (I n)) g (zct l i n):=by
 have h:=(ho.stored (i * 2+1) (I n)).1
 unfold zdC
 rw [zaQ]
 have e:(zaz l).set (i * 2+1) (I n)=zaz (zct l i n):=by
  unfold zct
  rw [zfY]
  congr 1
  simp only []
  have h1:=(zfF l i hi).1
  obtain ⟨hlt,h2⟩:=List.getElem?_eq_some_iff.1 h1
  rw [<- h2,List.set_getElem_self]
 rw [<- e]
 exact h

theorem zeE {w:World} {g:Nat} {l:List (Int×Int)} (ho:zdC w g l) {n m:Nat}:(Value.slice (some ⟨g,0,none⟩) n m).ownBlock≠some w.heap.size:=zkU ho

theorem zqW (l:List (Int×Int)) (g i b:Nat) (n:Int) (w:World) (ho:zdC w g l) (hi:i < l.length) (hb:w.cell? ⟨b,0,none⟩=some (I n)) (hbl:b < w.heap.size)
  (hn:-1073741824<=n/\n<=1073741824) (hm:-1073741824<=num l i/\num l i<=1073741824) :
  Calls Tryz.prog 147 #[.slice (some ⟨g,0,none⟩) l.length l.length,I i,.pointer (some ⟨b,0,none⟩)] w fun e w' =>
   if -1073741824<=num l i+n/\num l i+n<=1073741824 then zgA w g (zct l i (num l i+n)) ⟨0,num l i+n⟩ e w' else zgA w g l ⟨3,0⟩ e w':=by
 have hg:g < w.heap.size:=(ho.lt g rfl).2;obtain ⟨hc1,hc2⟩:=zcJ ho i hi;replace hc2:w.cell? ⟨g,i * 2+1,none⟩=some (I (num l i)):=hc2;clear hc1;have hf2:w.frozen? ⟨g,i * 2+1,none⟩=false:=ho.frozenAt _;have HO:Hid (∀ wx m,Ext w wx->zdC (wx.setCell ⟨g,i * 2+1,none⟩ (I m)) g (zct l i m)):=fun wx m hx=>zfN (zak ho hx) i hi m;generalize num l i=m at *;obtain ⟨n1,n2⟩:=hn;obtain ⟨m1,m2⟩:=hm;by_cases hs:-1073741824<=m+n/\m+n<=1073741824
 ·simp only [hs,and_self,if_true];obtain ⟨s1,s2⟩:=hs;go_enter Tryz.func147,Tryz.ntmps147
  go_wp2_with fail
  go_quiet (fail)
  go_wp2_with (go_at_call 71; refine Calls.same (zdn _ _ _ _) ?_)
  refine Calls.exts (zeu _ _ _) (fun w1 e1=>?_);obtain ⟨c0,c1,f0,f1⟩:=zaI (zlC hg) e1;have ho':=zak (HO.o _ _ (((Ext.refl w).alloc _).drewN _)) e1;have hg':=za2 (za2 ((((Ext.refl w).alloc _).drewN nq).grownBy (some g)) (zdF _ g (i * 2+1) (I (m+n)))) (e1.grownBy _);go_wp2
  try simp only [Exit.inBlock,Exit.then]
  refine bodyPost_ret (by simp [results,Tryz.results147,go_sem,c0,c1]; rfl) rfl ?_;exact zcH (Nat.le_refl _) ho' (zeE ho) hg' (fun w2 h2=>by have:=zaA h2; rwa [zaQ] at this)
 ·simp only [hs,if_false];have hs2:m+n < -1073741824∨1073741824 < m+n:=by omega
  clear hs;rcases hs2 with hs2 | hs2
  ·have d1:decide (-1073741824<=m+n)=false:=by simp; omega
   go_enter Tryz.func147,Tryz.ntmps147
   go_wp2_with fail
   go_quiet (fail)
   go_wp2_with (go_at_call 71; refine Calls.same (zdn _ _ _ _) ?_)
   refine Calls.exts (zeI _ _ _) (fun w1 e1=>?_);obtain ⟨c0,c1,f0,f1⟩:=zaI (zg4 w _ _) e1;have he:Ext w w1:=(((Ext.refl w).alloc _).drewN _).trans e1;go_wp2
   try simp only [Exit.inBlock,Exit.then]
   refine bodyPost_ret (by simp [results,Tryz.results147,go_sem,c0,c1]; rfl) rfl ?_;exact zcH (Nat.le_refl _) (zak ho he) (zeE ho) (he.grownBy _) (fun w2 h2=>zaA h2)
  ·have d1:decide (m+n<=1073741824)=false:=by simp; omega
   go_enter Tryz.func147,Tryz.ntmps147
   go_wp2_with fail
   go_quiet (fail)
   go_wp2_with (go_at_call 71; refine Calls.same (zdn _ _ _ _) ?_)
   refine Calls.exts (zeI _ _ _) (fun w1 e1=>?_);obtain ⟨c0,c1,f0,f1⟩:=zaI (zg4 w _ _) e1;have he:Ext w w1:=(((Ext.refl w).alloc _).drewN _).trans e1;go_wp2
   try simp only [Exit.inBlock,Exit.then]
   refine bodyPost_ret (by simp [results,Tryz.results147,go_sem,c0,c1]; rfl) rfl ?_;exact zcH (Nat.le_refl _) (zak ho he) (zeE ho) (he.grownBy _) (fun w2 h2=>zaA h2)

open Go.RowKit Go.Mk

theorem zo0 (l:List (Int×Int)) (g i b:Nat) (name:Int) (w:World) (ho:zdC w g l) (hi:i < l.length) (hb:w.cell? ⟨b,0,none⟩=some (I name)) (hbl:b < w.heap.size) :
  Calls Tryz.prog 148 #[.slice (some ⟨g,0,none⟩) l.length l.length,I i,.pointer (some ⟨b,0,none⟩)] w fun e w' =>
   if at1 l name < l.length then zgA w g (zct (zct l i (num l (at1 l name))) (at1 l name) (num l i)) ⟨0,num l (at1 l name)⟩ e w' else zgA w g l ⟨6,0⟩ e w':=by
 have hg:g < w.heap.size:=(ho.lt g rfl).2;by_cases ha:at1 l name < l.length
 case neg =>
  simp only [ha,if_false];have hf:zeO l name=-1:=by unfold zeO; rw [if_neg ha]
  go_enter Tryz.func148,Tryz.ntmps148
  go_wp2_with fail
  refine Calls.exts (zeQ _ l name _ (zaA (ho.alloc _))) (fun wa ea=>?_);rw [hf];go_wp2_with fail
  refine Calls.exts (zeI _ _ _) (fun w1 e1=>?_);obtain ⟨c0,c1,f0,f1⟩:=zaI (heap_alloc_new w _) (ea.trans e1);have he:Ext w w1:=(((Ext.refl w).alloc _).trans ea).trans e1;go_wp2
  try simp only [Exit.inBlock,Exit.then]
  refine bodyPost_ret (by simp [results,Tryz.results148,go_sem,c0,c1]; rfl) rfl ?_;exact zcH (Nat.le_refl _) (zak ho he) (zeE ho) (he.grownBy _) (fun w2 h2=>zaA h2)
 simp only [ha,if_true];have hf:zeO l name=(at1 l name:Int):=by unfold zeO; rw [if_pos ha]
 generalize hA:at1 l name=A at *;have HS:Hid (∀ wx,Ext w wx->zdC wx g l):=fun wx hx=>zak ho hx;go_enter Tryz.func148,Tryz.ntmps148
 go_wp2_with fail
 refine Calls.exts (zeQ _ l name _ (zaA (ho.alloc _))) (fun wa ea=>?_);rw [hf];have hoa:zdC wa g l:=HS.o wa (((Ext.refl w).alloc _).trans ea);obtain ⟨k1,k2⟩:=zcJ hoa i hi;obtain ⟨k3,k4⟩:=zcJ hoa A ha;have f2:wa.frozen? ⟨g,i * 2+1,none⟩=false:=hoa.frozenAt _;have f4:wa.frozen? ⟨g,A * 2+1,none⟩=false:=hoa.frozenAt _;replace k2:wa.cell? ⟨g,i * 2+1,none⟩=some (I (num l i)):=k2;replace k4:wa.cell? ⟨g,A * 2+1,none⟩=some (I (num l A)):=k4;clear k1 k3
 have HW:Hid (∀ x y:Int,zdC (((wa.setCell ⟨g,i * 2+1,none⟩ (I x)).setCell ⟨g,A * 2+1,none⟩ (I y)).drew) g (zct (zct l i x) A y)):=fun x y =>
  zak (zfN (zfN hoa i hi x) A (by rw [zaQ]; exact ha) y) (Ext.refl _).drew
 have HG:Hid (∀ x y:Value,wa.grownBy (((wa.setCell ⟨g,i * 2+1,none⟩ x).setCell ⟨g,A * 2+1,none⟩ y).drew) (some g)):=fun x y =>
  zje (za2 (zdF _ _ _ _) (zdF _ _ _ _))
 have HB:Hid (∀ x y:Value,(((wa.setCell ⟨g,i * 2+1,none⟩ x).setCell ⟨g,A * 2+1,none⟩ y).drew).heap[w.heap.size]?=some (.cells #[I 0,I 0] 40)):=fun x y=>by
  show ((wa.setCell ⟨g,i * 2+1,none⟩ x).setCell ⟨g,A * 2+1,none⟩ y).heap[w.heap.size]?=_
  rw [Below.heap_setCell _ _ _ _ (fun e=>by simp only [] at e; omega),Below.heap_setCell _ _ _ _ (fun e=>by simp only [] at e; omega)];exact zbj ea
 have HN:Hid (num (zct (zct l i (num l A)) A (num l i)) i=num l A):=by
  unfold Hid;rw [zml _ _ _ _ (by rw [zaQ]; exact ha),zml _ _ _ _ hi,if_pos rfl];by_cases e:A=i
  ·rw [if_pos e,e]
  ·rw [if_neg e]
 generalize hm:num l i=m at *;have HM:Hid (num l i=m):=hm;clear hm;generalize hn:num l A=n at *;have HNA:Hid (num l A=n):=hn;clear hn;have hgw:w.grownBy wa (some g):=(((Ext.refl w).alloc _).trans ea).grownBy _;by_cases hiA:i=A
 ·subst hiA
  have hmn:n=m:=by
   have:=k2.symm.trans k4;simpa using this.symm
  subst hmn;go_wp2_with fail
  go_region
  have hob:=HW.o n n;have hgb:=HG.o (I n) (I n);have hbb:=HB.o (I n) (I n);have kb:=(zcJ hob i (by rw [zaQ,zaQ]; exact hi)).2;generalize ((wa.setCell ⟨g,i * 2+1,none⟩ (I n)).setCell ⟨g,i * 2+1,none⟩ (I n)).drew=wb at *;replace kb:wb.cell? ⟨g,i * 2+1,none⟩=some (I n):=by rw [kb]; exact congrArg (some ∘ I) HN.o
  clear k2 k4 f2 f4;go_wp2_with fail
  refine Calls.exts (zeu _ _ _) (fun w1 e1=>?_);obtain ⟨c0,c1,f0,f1⟩:=zaI hbb e1;go_wp2
  try simp only [Exit.inBlock,Exit.then]
  refine bodyPost_ret (by simp [results,Tryz.results148,go_sem,c0,c1]; rfl) rfl ?_;rw [HNA.o];exact zcH (r:=⟨0,n⟩) (Nat.le_refl _) (zak hob e1) (zeE ho) (za2 (za2 hgw hgb) (e1.grownBy _)) (fun w2 h2=>by have:=zaA h2; rwa [zaQ,zaQ] at this)
 ·have d1:¬ (i * 2+1=A * 2+1):=by omega
  have d2:¬ (A * 2+1=i * 2+1):=by omega
  go_wp2_with fail
  go_region
  have hob:=HW.o n m;have hgb:=HG.o (I n) (I m);have hbb:=HB.o (I n) (I m);have kb:=(zcJ hob i (by rw [zaQ,zaQ]; exact hi)).2;generalize ((wa.setCell ⟨g,i * 2+1,none⟩ (I n)).setCell ⟨g,A * 2+1,none⟩ (I m)).drew=wb at *;replace kb:wb.cell? ⟨g,i * 2+1,none⟩=some (I n):=by rw [kb]; exact congrArg (some ∘ I) HN.o
  clear k2 k4 f2 f4;go_wp2_with fail
  refine Calls.exts (zeu _ _ _) (fun w1 e1=>?_);obtain ⟨c0,c1,f0,f1⟩:=zaI hbb e1;go_wp2
  try simp only [Exit.inBlock,Exit.then]
  refine bodyPost_ret (by simp [results,Tryz.results148,go_sem,c0,c1]; rfl) rfl ?_;rw [HNA.o,HM.o];exact zcH (r:=⟨0,n⟩) (Nat.le_refl _) (zak hob e1) (zeE ho) (za2 (za2 hgw hgb) (e1.grownBy _)) (fun w2 h2=>by have:=zaA h2; rwa [zaQ,zaQ] at this)

theorem zqv (l:List (Int×Int)) (g b1 b2:Nat) (name n:Int) (w:World) (ho:zdC w g l) (hr:(l.length+1) * 16<=140737488355328) (h1:w.cell? ⟨b1,0,none⟩=some (I name)) (hb1:b1 < w.heap.size) (h2:w.cell? ⟨b2,0,none⟩=some (I n)) :
  Calls Tryz.prog 144 #[.slice (some ⟨g,0,none⟩) l.length l.length,.pointer (some ⟨b1,0,none⟩),.pointer (some ⟨b2,0,none⟩)] w fun e w' =>
   if at1 l name < l.length then zgA w g (zct l (at1 l name) n) ⟨0,num l (at1 l name)⟩ e w' else if 5<=l.length then zgA w g l ⟨9,0⟩ e w' else zgA w g (l++[(name,n)]) ⟨0,0⟩ e w':=by
 have hg:g < w.heap.size:=(ho.lt g rfl).2;obtain ⟨i0,hi0,hz0,hz1,hz2⟩:=info_parts Tryz.infoWrite2;by_cases ha:at1 l name < l.length
 ·simp only [ha,if_true];have hf:zeO l name=(at1 l name:Int):=by unfold zeO; rw [if_pos ha]
  generalize hA:at1 l name=A at *;have HS:Hid (∀ wx,Ext w wx->zdC wx g l):=fun wx hx=>zak ho hx;go_enter Tryz.func144,Tryz.ntmps144
  go_wp2_with fail
  refine Calls.exts (zeQ _ l name _ (zaA (ho.alloc _))) (fun wa ea=>?_);rw [hf];have hea:Ext w wa:=((Ext.refl w).alloc _).trans ea;have hoa:zdC wa g l:=HS.o wa hea;obtain ⟨_,k2⟩:=zcJ hoa A ha;have f2:wa.frozen? ⟨g,A * 2+1,none⟩=false:=hoa.frozenAt _;replace k2:wa.cell? ⟨g,A * 2+1,none⟩=some (I (num l A)):=k2;have g2:=hea.cell h2;have hob:=zfN hoa A ha n;have hgb:w.grownBy _ (some g):=za2 (hea.grownBy (some g)) (zdF wa g (A * 2+1) (I n))
  have hbb:(wa.setCell ⟨g,A * 2+1,none⟩ (I n)).heap[w.heap.size]?=some (.cells #[I 0,I 0] 40):=by
   rw [Below.heap_setCell _ _ _ _ (fun e=>by simp only [] at e; omega)];exact zbj ea
  go_wp2_with fail
  refine Calls.exts (zeu _ _ _) (fun w1 e1=>?_);obtain ⟨c0,c1,f0,f1⟩:=zaI hbb e1;go_wp2
  try simp only [Exit.inBlock,Exit.then]
  refine bodyPost_ret (by simp [results,Tryz.results144,go_sem,c0,c1]; rfl) rfl ?_;exact zcH (Nat.le_refl _) (zak hob e1) (zeE ho) (za2 hgb (e1.grownBy _)) (fun w2 h2=>by have:=zaA h2; rwa [zaQ] at this)
 simp only [ha,if_false];have hf:zeO l name=-1:=by unfold zeO; rw [if_neg ha]
 by_cases h5:5<=l.length
 ·simp only [h5,if_true];have h5':(5:Int)<=(l.length:Int):=by omega
  go_enter Tryz.func144,Tryz.ntmps144
  go_wp2_with fail
  refine Calls.exts (zeQ _ l name _ (zaA (ho.alloc _))) (fun wa ea=>?_);rw [hf];go_wp2_with fail
  refine Calls.exts (zeI _ _ _) (fun w1 e1=>?_);obtain ⟨c0,c1,f0,f1⟩:=zaI (heap_alloc_new w _) (ea.trans e1);have he:Ext w w1:=(((Ext.refl w).alloc _).trans ea).trans e1;go_wp2
  try simp only [Exit.inBlock,Exit.then]
  refine bodyPost_ret (by simp [results,Tryz.results144,go_sem,c0,c1]; rfl) rfl ?_;exact zcH (Nat.le_refl _) (zak ho he) (zeE ho) (he.grownBy _) (fun w2 h2=>zaA h2)
 ·simp only [h5,if_false];have h5':(l.length:Int) < 5:=by omega
  go_enter Tryz.func144,Tryz.ntmps144
  go_wp2_with fail
  refine Calls.exts (zeQ _ l name _ (zaA (ho.alloc _))) (fun wa ea=>?_);rw [hf];have hea:Ext w wa:=((Ext.refl w).alloc _).trans ea;have g1:=hea.cell h1;have g2:=hea.cell h2;have hoa:zdC wa g l:=zak ho hea;have hba:=zbj ea;have hsa:g<=wa.heap.size:=Nat.le_trans (Nat.le_of_lt hg) hea.size;have hbs:w.heap.size < wa.heap.size:=(Array.getElem?_eq_some_iff.1 hba).1;go_wp2_with (at_builtin; refine zay _ rfl _ _ 28 rfl g 73 i0 (.agg #[.int .i64 0,.int .i64 0]) 2 16 zfz hi0 hz0 hz1 hz2 rfl (by decide) _ _ _ rfl (hoa.alloc _) _ rfl 1 [I name,I n] (zcN (l:=[(name,n)]) _ _ 1 rfl rfl (by decide)) (zbD [(name,n)]) (by omega) (by decide) (by simp; omega) ?_; intro v' w3 ho3 hg3)
  have hb3:w3.heap[w.heap.size]?=some (.cells #[I 0,I 0] 40):=by
   have hg4:(wa.alloc (.cells #[I name,I n] 73)).grownBy w3 (some g):=hg3;rw [hg4.block w.heap.size (by simp; omega) (fun e=>by have e2:w.heap.size=g:=Option.some.inj e; omega),heap_alloc_old _ _ hbs];exact hba
  have hgw:w.grownBy w3 (some g):=za2 ((hea.alloc _).grownBy _) hg3;refine Calls.exts (zeu _ _ _) (fun w1 e1=>?_);obtain ⟨c0,c1,f0,f1⟩:=zaI hb3 e1;go_wp2
  try simp only [Exit.inBlock,Exit.then]
  refine bodyPost_ret (by simp [results,Tryz.results144,go_sem,c0,c1]; rfl) rfl ?_;rw [show zaz l++[I name,I n]=zaz (l++[(name,n)]) from (zbf l [(name,n)]).symm] at ho3;exact zcH (Nat.le_refl _) (zak ho3 e1) (za6 ho3 hb3 (by decide)) (za2 hgw (e1.grownBy _)) (fun w2 h2=>zaA h2)

open Go.RowKit Go.Mk

def zcC (F:FuncId):Prop:=∀ (args:Array Value) (w:World),(callFunc F args).run Tryz.prog w=.ok (.enter F args) w
theorem enters_get:zcC 136:=fun _ _=>by kernel_rfl
theorem enters_drop:zcC 137:=fun _ _=>by kernel_rfl
theorem enters_add:zcC 147:=fun _ _=>by kernel_rfl
theorem enters_swap:zcC 148:=fun _ _=>by kernel_rfl
theorem enters_there:zcC 146:=fun _ _=>by kernel_rfl
theorem enters_put:zcC 144:=fun _ _=>by kernel_rfl
theorem enters_count:zcC 133:=fun _ _=>by kernel_rfl
theorem zoC (F:FuncId) (caps:Array Value) (l:List (Int×Int)) (g b1 b2:Nat) (name:Int) (w:World) (l':List (Int×Int)) (r:Rp) (ho:zdC w g l) (h1:w.cell? ⟨b1,0,none⟩=some (I name)) (hb1:b1 < w.heap.size)
  (h2:w.cell? ⟨b2,0,none⟩=some (.func (.func F) #[] caps))
  (hE:zcC F) (hF:at1 l name < l.length->∀ wa,Ext w wa->Calls Tryz.prog F (#[.slice (some ⟨g,0,none⟩) l.length l.length,I (at1 l name)]++caps) wa fun e w'=>zgA wa g l' r e w') :
  Calls Tryz.prog 146 #[.slice (some ⟨g,0,none⟩) l.length l.length,.pointer (some ⟨b1,0,none⟩),.pointer (some ⟨b2,0,none⟩)] w fun e w' =>
   if at1 l name < l.length then zgA w g l' r e w' else zgA w g l ⟨6,0⟩ e w':=by
 have hg:g < w.heap.size:=(ho.lt g rfl).2;by_cases ha:at1 l name < l.length
 case neg =>
  simp only [ha,if_false];have hf:zeO l name=-1:=by unfold zeO; rw [if_neg ha]
  clear hF;go_enter Tryz.func146,Tryz.ntmps146
  go_wp2_with fail
  refine Calls.exts (zeQ _ l name _ (zaA (ho.alloc _))) (fun wa ea=>?_);rw [hf];go_wp2_with fail
  refine Calls.exts (zeI _ _ _) (fun w1 e1=>?_);obtain ⟨c0,c1,f0,f1⟩:=zaI (heap_alloc_new w _) (ea.trans e1);have he:Ext w w1:=(((Ext.refl w).alloc _).trans ea).trans e1;go_wp2
  try simp only [Exit.inBlock,Exit.then]
  refine bodyPost_ret (by simp [results,Tryz.results146,go_sem,c0,c1]; rfl) rfl ?_;exact zcH (Nat.le_refl _) (zak ho he) (zeE ho) (he.grownBy _) (fun w2 h2=>zaA h2)
 simp only [ha,if_true];have hf:zeO l name=(at1 l name:Int):=by unfold zeO; rw [if_pos ha]
 have HF:Hid (∀ wa,Ext w wa->Calls Tryz.prog F (#[.slice (some ⟨g,0,none⟩) l.length l.length,I (at1 l name)]++caps) wa fun e w'=>zgA wa g l' r e w'):=hF ha;clear hF;generalize hA:at1 l name=A at *;go_enter Tryz.func146,Tryz.ntmps146
 go_wp2_with fail
 refine Calls.exts (zeQ _ l name _ (zaA (ho.alloc _))) (fun wa ea=>?_);rw [hf];have hea:Ext w wa:=((Ext.refl w).alloc _).trans ea;have g2:=hea.cell h2;have hE2:=hE;unfold zcC at hE2;go_wp2_with fail
 refine (HF.o wa hea).mono ?_;rintro e w1 ⟨u,v,n,lo,rfl,hov,hu,hgr⟩
 have hb1:w1.heap[w.heap.size]?=some (.cells #[I 0,I 0] 40):=by
  rw [hgr.block w.heap.size (Array.getElem?_eq_some_iff.1 (zbj ea)).1 (fun e=>by have e2:w.heap.size=g:=Option.some.inj e; omega)];exact zbj ea
 obtain ⟨c0,c1,f0,f1⟩:=zaI hb1 (Ext.refl w1);clear hE2;go_wp2
 try simp only [Exit.inBlock,Exit.then]
 refine bodyPost_ret (by simp [results,Tryz.results146,go_sem,c0,c1]; rfl) rfl ?_;exact zcH (Nat.le_refl _) hov (za6 hov hb1 (by decide)) (za2 (hea.grownBy _) hgr) hu

open Go.RowKit Go.Mk

def zhw (c:Cl) (v:Value) (w:World):Prop:=∃ F caps,v=.func (.func F) #[] caps/\zcC F/\∀ l g wa,Ext w wa->zdC wa g l->Okw l->Calls Tryz.prog F (#[.slice (some ⟨g,0,none⟩) l.length l.length]++caps) wa fun e w'=>zgA wa g (zbk l c).1 (zbk l c).2 e w'

def zg2 (c:Cl) (v:Value) (w:World):Prop:=∃ F caps,v=.func (.func F) #[] caps/\zcC F/\∀ l g wa,Ext w wa->zdC wa g l->Okw l->at1 l c.name < l.length->Calls Tryz.prog F (#[.slice (some ⟨g,0,none⟩) l.length l.length,I (at1 l c.name)]++caps) wa fun e w'=>zgA wa g (zbk l c).1 (zbk l c).2 e w'

theorem zmr (c:Cl):∀ v,zcy (zhw c v):=fun _ _ _ he ⟨F,caps,h1,h2,h3⟩=>⟨F,caps,h1,h2,fun l g wa hx=>h3 l g wa (he.trans hx)⟩

theorem zmz (c:Cl):∀ v,zcy (zg2 c v):=fun _ _ _ he ⟨F,caps,h1,h2,h3⟩=>⟨F,caps,h1,h2,fun l g wa hx=>h3 l g wa (he.trans hx)⟩

theorem zpY (a o n:Int) (w:World):zg2 ⟨2,a,o,n⟩ (.func (.func 136) #[] #[]) w :=
 ⟨_,_,rfl,enters_get,fun l g wa _ ho _ ha=>(zq1 l g _ wa ho ha).mono fun e w' h=>by rw [zjv,if_neg (by simpa using ha)]; exact h⟩

theorem zoj (a o n:Int) (w:World):zg2 ⟨3,a,o,n⟩ (.func (.func 137) #[] #[]) w :=
 ⟨_,_,rfl,enters_drop,fun l g wa _ ho hk ha=>(zpq l g _ wa ho ha (by have:=hk.len; omega)).mono fun e w' h=>by rw [zgE,if_neg (by simpa using ha)]; exact h⟩

theorem zmT (a o n:Int) (w:World):zhw ⟨5,a,o,n⟩ (.func (.func 133) #[] #[]) w :=
 ⟨_,_,rfl,enters_count,fun l g wa _ ho _=>zok l g wa ho⟩

theorem zoo (a o n:Int) (w:World):Calls Tryz.prog 134 #[I a,I n] w fun e w'=>∃ r,e=.returned r/\Ext w w'/\zhw ⟨1,a,o,n⟩ r w':=by
 have hmf:=zdK;go_enter Tryz.func134,Tryz.ntmps134
 go_wp2
 go_ret
 refine ⟨_,rfl,((Ext.refl w).alloc _).alloc _,_,_,rfl,enters_put,fun l g wa hx ho hk=>?_⟩;have q1:=hx.cell (p:=⟨w.heap.size,0,none⟩) (v:=I a) (by simp);have q2:=hx.cell (p:=⟨w.heap.size+1,0,none⟩) (v:=I n) (by simp);refine (zqv l g _ _ a n wa ho (by have:=hk.len; omega) q1 (zdJ q1) q2).mono fun e w' h=>?_;rw [ziM];by_cases ha:at1 l a < l.length
 ·rw [if_pos ha] at h ⊢; exact h
 ·rw [if_neg ha] at h ⊢;by_cases h5:5<=l.length
  ·rw [if_pos h5] at h ⊢; exact h
  ·rw [if_neg h5] at h ⊢; exact h

theorem ze7 (c:Cl) (v:Value) (w:World) (hv:zg2 c v w) (hno:∀ l,¬ at1 l c.name < l.length->zbk l c=(l,⟨6,0⟩)):Calls Tryz.prog 135 #[I c.name,v] w fun e w'=>∃ r,e=.returned r/\Ext w w'/\zhw c r w':=by
 have hmf:=zdK;obtain ⟨F,caps,rfl,hE,hF⟩:=hv;have HF:Hid _:=hF;have HE:Hid (zcC F):=hE;clear hF hE;go_enter Tryz.func135,Tryz.ntmps135
 go_wp2
 go_ret
 refine ⟨_,rfl,((Ext.refl w).alloc _).alloc _,_,_,rfl,enters_there,fun l g wa hx ho hk=>?_⟩;have hw:Ext w wa:=(((Ext.refl w).alloc _).alloc _).trans hx;have q1:=hx.cell (p:=⟨w.heap.size,0,none⟩) (v:=I c.name) (by simp);have q2:=hx.cell (p:=⟨w.heap.size+1,0,none⟩) (v:=.func (.func F) #[] caps) (by simp);refine (zoC F caps l g _ _ c.name wa (zbk l c).1 (zbk l c).2 ho q1 (zdJ q1) q2 HE.o (fun ha wb hb=>HF.o l g wb (hw.trans hb) (zak ho hb) hk ha)).mono fun e w' h=>?_;by_cases ha:at1 l c.name < l.length
 ·rw [if_pos ha] at h; exact h
 ·rw [if_neg ha] at h; rw [hno l ha]; exact h

theorem znX (a o n:Int) (w:World) (hn:-1073741824<=n/\n<=1073741824):Calls Tryz.prog 138 #[I n] w fun e w'=>∃ r,e=.returned r/\Ext w w'/\zg2 ⟨4,a,o,n⟩ r w':=by
 have hmf:=zdK;go_enter Tryz.func138,Tryz.ntmps138
 go_wp2
 go_ret
 refine ⟨_,rfl,(Ext.refl w).alloc _,_,_,rfl,enters_add,fun l g wa hx ho hk ha=>?_⟩;have q1:=hx.cell (p:=⟨w.heap.size,0,none⟩) (v:=I n) (by simp);refine (zqW l g _ _ n wa ho ha q1 (zdJ q1) hn (hk.at ha).2.2).mono fun e w' h=>?_;rw [zhH,if_neg (by simpa using ha)];by_cases hs:-1073741824<=num l (at1 l a)+n/\num l (at1 l a)+n<=1073741824
 ·rw [if_pos hs] at h;rw [if_neg (by simpa using hs)]; exact h
 ·rw [if_neg hs] at h;rw [if_pos hs]; exact h

theorem zmP (a o n:Int) (w:World):Calls Tryz.prog 139 #[I o] w fun e w'=>∃ r,e=.returned r/\Ext w w'/\zg2 ⟨6,a,o,n⟩ r w':=by
 have hmf:=zdK;go_enter Tryz.func139,Tryz.ntmps139
 go_wp2
 go_ret
 refine ⟨_,rfl,(Ext.refl w).alloc _,_,_,rfl,enters_swap,fun l g wa hx ho hk ha=>?_⟩;have q1:=hx.cell (p:=⟨w.heap.size,0,none⟩) (v:=I o) (by simp);refine (zo0 l g _ _ o wa ho ha q1 (zdJ q1)).mono fun e w' h=>?_;rw [zfK,if_neg (by simpa using ha)];by_cases hs:at1 l o < l.length
 ·rw [if_pos hs] at h;rw [if_neg (by simpa using hs)]; exact h
 ·rw [if_neg hs] at h;rw [if_pos hs]; exact h

open Go.RowKit Go.Mk

theorem zno (k a o n:Int) (w:World) (hc:wrongCl ⟨k,a,o,n⟩=0):Calls Tryz.prog 123 #[.agg #[I k,I a,I o,I n]] w fun e w'=>∃ r,e=.returned r/\Ext w w'/\zhw ⟨k,a,o,n⟩ r w':=by
 obtain ⟨hk,hn⟩:=zez hc;have HN:Hid (k=1∨k=4->-1073741824<=n/\n<=1073741824):=hn;clear hc hn;have he0:Ext w (w.alloc (.cells #[I k,I a,I o,I n] 35)):=(Ext.refl w).alloc _;rcases hk with rfl | rfl | rfl | rfl | rfl | rfl
 ·go_enter Tryz.func123,Tryz.ntmps123
  go_wp2_with fail
  refine (zoo a o n _).mono ?_;rintro e w1 ⟨r,rfl,he,hd⟩
  go_wp2
  go_ret
  exact ⟨_,rfl,he0.trans he,hd⟩
 ·go_enter Tryz.func123,Tryz.ntmps123
  go_wp2_with fail
  refine (ze7 ⟨2,a,o,n⟩ _ _ (zpY a o n _) (fun l ha=>by rw [zjv,if_pos ha])).mono ?_;rintro e w1 ⟨r,rfl,he,hd⟩
  go_wp2
  go_ret
  exact ⟨_,rfl,he0.trans he,hd⟩
 ·go_enter Tryz.func123,Tryz.ntmps123
  go_wp2_with fail
  refine (ze7 ⟨3,a,o,n⟩ _ _ (zoj a o n _) (fun l ha=>by rw [zgE,if_pos ha])).mono ?_;rintro e w1 ⟨r,rfl,he,hd⟩
  go_wp2
  go_ret
  exact ⟨_,rfl,he0.trans he,hd⟩
 ·have q1:(w.alloc (.cells #[I 4,I a,I o,I n] 35)).cell? ⟨w.heap.size,1,none⟩=some (I a):=by simp
  have q3:(w.alloc (.cells #[I 4,I a,I o,I n] 35)).cell? ⟨w.heap.size,3,none⟩=some (I n):=by simp
  have HQ1:Hid _:=q1;have HQ3:Hid _:=q3;clear q1 q3;go_enter Tryz.func123,Tryz.ntmps123
  go_wp2_with fail
  refine zcT [none,none,none,none,some (.inr (zg2 ⟨4,a,o,n⟩)),some (.inr (zhw ⟨4,a,o,n⟩)),none] (by kernel_rfl) (by kernel_rfl) ?_ ?_
  ·exact ⟨trivial,trivial,trivial,trivial,zmz _,zmr _,trivial,trivial⟩
  (refine zar (fun K hK=>?_); go_simp; refine hK _ ?_; clear hK K)
  refine zaE (I a) rfl (fun w' hw'=>by have t1:=hw'.cell HQ1.o; go_simp) ?_;(refine zar (fun K hK=>?_); go_simp; refine hK _ ?_; clear hK K)
  refine zaE (I n) rfl (fun w' hw'=>by have t1:=hw'.cell HQ3.o; go_simp) ?_;refine za8 _ rfl (fun w' hw' _=>?_) (fun v30=>?_)
  ·have hg:=znX a o n w' (HN.o (by simp));unfold zaT;go_simp
   exact ⟨Ext.refl _,hg⟩
  refine za8 _ rfl (fun w' hw' hk=>?_) (fun v31=>?_)
  ·have h7:zg2 ⟨4,a,o,n⟩ v30 w':=hk 30 (by decide);have hg:=ze7 ⟨4,a,o,n⟩ v30 w' h7 (fun l ha=>by rw [zhH,if_pos ha]);clear hk h7;unfold zaT;go_simp
   exact ⟨Ext.refl _,hg⟩
  (refine zar (fun K hK=>?_); go_simp; refine hK _ ?_; clear hK K)
  refine za0 ?_;intro w2 he2 hF;have hd:zhw ⟨4,a,o,n⟩ v31 w2:=hF 31;go_wp2
  go_ret
  exact ⟨_,rfl,he0.trans he2,hd⟩
 ·go_enter Tryz.func123,Tryz.ntmps123
  go_wp2
  go_ret
  exact ⟨_,rfl,he0,zmT a o n _⟩
 ·have q1:(w.alloc (.cells #[I 6,I a,I o,I n] 35)).cell? ⟨w.heap.size,1,none⟩=some (I a):=by simp
  have q3:(w.alloc (.cells #[I 6,I a,I o,I n] 35)).cell? ⟨w.heap.size,2,none⟩=some (I o):=by simp
  have HQ1:Hid _:=q1;have HQ3:Hid _:=q3;clear q1 q3;go_enter Tryz.func123,Tryz.ntmps123
  go_wp2_with fail
  refine zcT [none,none,none,none,some (.inr (zg2 ⟨6,a,o,n⟩)),some (.inr (zhw ⟨6,a,o,n⟩)),none] (by kernel_rfl) (by kernel_rfl) ?_ ?_
  ·exact ⟨trivial,trivial,trivial,trivial,zmz _,zmr _,trivial,trivial⟩
  (refine zar (fun K hK=>?_); go_simp; refine hK _ ?_; clear hK K)
  refine zaE (I a) rfl (fun w' hw'=>by have t1:=hw'.cell HQ1.o; go_simp) ?_;(refine zar (fun K hK=>?_); go_simp; refine hK _ ?_; clear hK K)
  refine zaE (I o) rfl (fun w' hw'=>by have t1:=hw'.cell HQ3.o; go_simp) ?_;refine za8 _ rfl (fun w' hw' _=>?_) (fun v30=>?_)
  ·have hg:=zmP a o n w';unfold zaT;go_simp
   exact ⟨Ext.refl _,hg⟩
  refine za8 _ rfl (fun w' hw' hk=>?_) (fun v31=>?_)
  ·have h7:zg2 ⟨6,a,o,n⟩ v30 w':=hk 38 (by decide);have hg:=ze7 ⟨6,a,o,n⟩ v30 w' h7 (fun l ha=>by rw [zfK,if_pos ha]);clear hk h7;unfold zaT;go_simp
   exact ⟨Ext.refl _,hg⟩
  (refine zar (fun K hK=>?_); go_simp; refine hK _ ?_; clear hK K)
  refine za0 ?_;intro w2 he2 hF;have hd:zhw ⟨6,a,o,n⟩ v31 w2:=hF 39;go_wp2
  go_ret
  exact ⟨_,rfl,he0.trans he2,hd⟩

def zkb (base:Nat) (l:List (Int×Int)) (c:Cl) (r:Value) (w:World):Prop:=∃ u,r=.tuple #[u,(zbk l c).2.val]/\Has base w u (zbk l c).1

theorem zqQ (v:Value) (l:List (Int×Int)) (k a o n:Int) (w:World) (hv:zaw w v l) (hl:Okw l) (hc:wrongCl ⟨k,a,o,n⟩=0):Calls Tryz.prog 115 #[v,.agg #[I k,I a,I o,I n]] w fun e w'=>∃ r,e=.returned r/\Ext w w'/\zkb w.heap.size l ⟨k,a,o,n⟩ r w':=by
 have he0:Ext w ((w.alloc (.cells #[I k,I a,I o,I n] 35)).alloc (.cells #[I 0,I 0] 40)):=((Ext.refl w).alloc _).alloc _
 have hbx:((w.alloc (.cells #[I k,I a,I o,I n] 35)).alloc (.cells #[I 0,I 0] 40)).heap[w.heap.size+1]?=some (.cells #[I 0,I 0] 40):=by
  have:=heap_alloc_new (w.alloc (.cells #[I k,I a,I o,I n] 35)) (.cells #[I 0,I 0] 40);simpa using this
 have HBX:Hid _:=hbx;clear hbx;go_enter Tryz.func115,Tryz.ntmps115
 go_wp2_with fail
 refine (zno k a o n _ hc).mono ?_;rintro e w1 ⟨r,rfl,e1,F,caps,rfl,hE,hF⟩
 have HF:Hid _:=hF;clear hF;unfold zcC at hE;have hw1:Ext w w1:=he0.trans e1;go_wp2_with fail
 refine (zo3 v l w1 (hv.ext hw1) (by have:=hl.len; omega)).mono ?_;rintro e w2 ⟨rfl,ho,e2⟩
 have hs1:w.heap.size+1 < w1.heap.size:=by have:=e1.size; simp at this; omega
 generalize hgs:w1.heap.size=g at *;go_wp2_with fail
 refine (HF.o l g w2 e2 ho hl).mono ?_;rintro e w3 ⟨u,x,m,lo,rfl,hov,hu,hgr⟩
 have hb3:w3.heap[w.heap.size+1]?=some (.cells #[I 0,I 0] 40):=by
  rw [hgr.block (w.heap.size+1) (by have:=e2.size; omega) (fun e=>by have e2:w.heap.size+1=g:=Option.some.inj e; omega),e2.block _ (by omega),e1.block _ (by simp)];exact HBX.o
 obtain ⟨c0,c1,f0,f1⟩:=zaI hb3 (Ext.refl w3);have hw3:Ext w w3:=(hw1.trans e2).grown hgr (fun k hk=>by cases hk; omega);clear hE;generalize hD:zbk l ⟨k,a,o,n⟩=D at *;have HD:Hid (zbk l ⟨k,a,o,n⟩=D):=hD;clear hD;obtain ⟨D1,D2,D3⟩:=D;go_wp2
 try simp only [Exit.inBlock,Exit.then]
 refine bodyPost_ret (by simp [results,Tryz.results115,go_sem,c0,c1]; rfl) rfl ?_;have hne:=za6 hov hb3 (by decide);refine ⟨_,rfl,(hw3.setCell (Nat.le_succ _) _).setCell (Nat.le_succ _) _,u,?_,?_⟩
 ·rw [HD.o]
 ·rw [HD.o]; exact Has.low ⟨x,m,lo,zbq (zbq hov hne _ _) hne _ _,hu⟩ (by omega)

open Go.RowKit Go.Mk

open Go.RowKit Go.Mk

theorem zqO (v:Value) (xs:List Int) (w:World) (hv:zbE w v xs) (hw:xs.length=11/\0<=xs.getD 0 0/\xs.getD 0 0<=5) :
  Calls Tryz.prog 116 #[v] w fun e w'=>∃ r,e=.returned r/\Ext w w'/\zaw w' r (zaK xs (xs.getD 0 0).toNat):=by
 obtain ⟨hl,x0,x5⟩:=id hw;obtain ⟨i0,hi,hz0,hz1,hz2⟩:=info_parts Tryz.infoWrite2;have he:zcm xs=xs.getD 0 0:=by unfold zcm; rw [if_neg (by omega)]; omega
 have H3:Hid (∀ k,k < 11->∃ ao cap,v=.slice ao 11 cap/\11<=cap/\cap<=maxLen/\∃ b off,ao=some ⟨b,off,none⟩/\w.cell? ⟨b,off+k,none⟩=some (I (xs.getD k 0))):=fun k hk=>by
  obtain ⟨ao,cap,h1,h2,h3,h4⟩:=hv.form;rw [hl] at h1 h2 h4;exact ⟨ao,cap,h1,h2,h3,h4 k hk⟩
 obtain ⟨ao,cap,rfl,hcap,hm,b,off,rfl,_⟩:=H3.o 0 (by omega)
 have HC:Hid (∀ k,k < 11->w.cell? ⟨b,off+k,none⟩=some (I (xs.getD k 0))):=fun k hk=>by
  obtain ⟨ao,cap',h1,_,_,b',off',h2,h3⟩:=H3.o k hk;rw [h2] at h1;simp only [Value.slice.injEq,Option.some.injEq,Addr.mk.injEq,and_true] at h1;obtain ⟨⟨rfl,rfl⟩,_,rfl⟩:=h1;exact h3
 clear H3;unfold maxLen at hm;generalize hX:xs.getD 0 0=x at *;clear hX hw hl;go_enter Tryz.func116,Tryz.ntmps116
 go_wp2_with fail
 refine Calls.same (zie _ xs _ hv) ?_;rw [he];clear he hv;go_wp2_with fail
 go_loopw [3,7] (fun o i wr=>∃ k:Nat,(k:Int)<=x/\i=I k/\wr.ownsRow w.heap.size 73 2 o k (zaz (zaK xs k))/\Ext w wr) (fun _ i _=>x.toNat - (intOf i).toNat)
 case atStart=>exact ⟨0,by omega,rfl,World.ownsRow_nil _ _ _ _,Ext.refl w⟩
 case round =>
  obtain ⟨k,hk,rfl,ho,he⟩:=hrel;by_cases hlt:(k:Int) < x
  ·have c1:=he.cell (HC.o (1+2 * k) (by omega));have c2:=he.cell (HC.o (1+2 * k+1) (by omega));have HS:Hid (zaK xs (k+1)=zaK xs k++[(xs.getD (1+2 * k) 0,xs.getD (1+2 * k+1) 0)]):=zhE xs k;generalize xs.getD (1+2 * k) 0=p at *;generalize xs.getD (1+2 * k+1) 0=q at *;have a1:(0:Int)<=1+2 * (k:Int):=by omega
   have a2:1+2 * (k:Int) < 11:=by omega
   have a3:(1+2 * (k:Int)).toNat=1+2 * k:=by omega
   have a4:(0:Int)<=1+2 * (k:Int)+1:=by omega
   have a5:1+2 * (k:Int)+1 < 11:=by omega
   have a6:(1+2 * (k:Int)+1).toNat=1+2 * k+1:=by omega
   go_wp2_with fail
   refine zam 13 [none,none,none,some (.inl (I (1+2 * (k:Int)))),none,none,none,none,some (.inl (I (1+2 * (k:Int)+1))),none,none,none,some (.inr fun v w=>zaw w v [(p,q)])] (by kernel_rfl) (by kernel_rfl) ?_ ?_
   ·exact ⟨trivial,trivial,trivial,trivial,trivial,trivial,trivial,trivial,trivial,trivial,trivial,trivial,zeU _,trivial⟩
   iterate 3 (refine zar (fun K hK=>?_); go_simp; refine hK _ ?_; clear hK K)
   refine zd0 _ rfl (fun w' hw' _=>?_) ?_
   ·have hg:=zeg (zeD k w' (by omega) (by omega));unfold zaT;go_simp
    exact ⟨Ext.refl _,hg⟩
   (refine zar (fun K hK=>?_); go_simp; refine hK _ ?_; clear hK K)
   refine zaE (I p) rfl (fun w' hw'=>by have:=hw'.cell c1; go_simp) ?_;iterate 2 (refine zar (fun K hK=>?_); go_simp; refine hK _ ?_; clear hK K)
   refine zd0 _ rfl (fun w' hw' _=>?_) ?_
   ·have hg:=zeg (zgv k w' (by omega) (by omega));unfold zaT;go_simp
    exact ⟨Ext.refl _,hg⟩
   (refine zar (fun K hK=>?_); go_simp; refine hK _ ?_; clear hK K)
   refine zaE (I q) rfl (fun w' hw'=>by have:=hw'.cell c2; go_simp) ?_;(refine zar (fun K hK=>?_); go_simp; refine hK _ ?_; clear hK K)
   refine za8 _ rfl (fun w' hw' _=>?_) (fun v22=>?_)
   ·unfold zaT;go_simp
    exact ⟨(Ext.refl _).alloc _,zcN _ _ _ 1 rfl rfl (by decide)⟩
   refine za0 ?_;intro w2 he2 hF;have h22:zaw w2 v22 [(p,q)]:=hF 22;clear hF c1 c2;refine zay _ rfl (.tmp 10) (.tmp 22) 28 rfl w.heap.size 73 i0 _ 2 16 zfz hi hz0 hz1 hz2 rfl (by decide) u3 k (zaz (zaK xs k)) rfl ?_ v22 rfl 1 _ h22 (zbD _) (by omega) (by decide) ?_ ?_
   ·exact zak ho he2
   ·exact Nat.le_trans he.size he2.size
   intro o' w3 ho3 hg3;have he4:Ext w w3:=(he.trans he2).grown hg3 (fun j hj=>(ho.lt j hj).1);clear hg3 he2 h22;go_wp2
   go_roundw
   case rel =>
    refine ⟨k+1,by omega,by go_num,?_,he4⟩;rw [HS.o,zbf];exact ho3
   case measure=>simp [intOf]; omega
  ·go_wp2
   go_ret
   refine ⟨_,rfl,he,?_⟩;rw [show x.toNat=k by omega];exact zaA ho
open Go.RowKit Go.Mk

theorem zmI {w:World} {b:Nat} {t:TypeId} {p q:Value} (h:w.heap[b]?=some (.cells #[p,q] t (0,0))) (u v:Value):((w.setCell ⟨b,0,none⟩ u).setCell ⟨b,1,none⟩ v).heap[b]?=some (.cells #[u,v] t (0,0)):=by
 have h1:=heap_setCell_same _ _ 0 _ _ u h
 have h2:=heap_setCell_same _ _ 1 _ _ v h1
 simpa using h2

theorem zhS {w:World} (l:List (Int×Int)) (cs:Array Value) (n:Nat) (hc:cs.toList=zaz l) (hn:l.length=n) (hm:n<=maxLen) (b:Nat) (hb:b<=w.heap.size):Has b (w.alloc (.cells cs 73)) (.slice (some ⟨w.heap.size,0,none⟩) n n) l:=by
 subst hn
 have:=World.ownsRow_lit (base:=b) (e:=73) (size:=2) w cs l.length hb hm (by rw [<- Array.length_toList,hc,zcp])
 rw [hc] at this
 exact ⟨_,_,l,this,fun w2 h2=>zaA h2⟩

theorem zjC (v:Value) (l:List (Int×Int)) (w:World) (hv:zaw w v l) :
  Calls Tryz.prog 130 #[v] w fun e w'=>e=.returned (.agg #[I 0,I (l.length:Int)])/\Ext w w':=by
 obtain ⟨ao,cap,rfl,h1,h2,-⟩:=hv.form;unfold maxLen at h2;clear hv;have c0:(w.alloc (.cells #[I 0,I (l.length:Int)] 73)).cell? ⟨w.heap.size,0,none⟩=some (I 0):=by simp
 have c1:(w.alloc (.cells #[I 0,I (l.length:Int)] 73)).cell? ⟨w.heap.size,1,none⟩=some (I (l.length:Int)):=by simp
 go_enter Tryz.func130,Tryz.ntmps130
 go_wp2
 refine bodyPost_ret (by simp [results,Tryz.results130,go_sem]; rfl) rfl ?_;exact ⟨rfl,(Ext.refl _).alloc _⟩

theorem zoG (v:Value) (l:List (Int×Int)) (i:Nat) (w:World) (hv:zaw w v l) (hi:i < l.length) (hl:l.length<=5) :
  Calls Tryz.prog 142 #[v,I i] w fun e w'=>e=.returned (.agg #[I (1+2 * (i:Int)),I (l.getD i (0,0)).1])/\Ext w w':=by
 obtain ⟨ao,cap,rfl,h1,h2,h3⟩:=hv.form;unfold maxLen at h2;obtain ⟨b,off,rfl,c1,c2⟩:=h3 i hi;generalize (l.getD i (0,0)).1=p at *;generalize (l.getD i (0,0)).2=q at *;clear hv h3;have e0:Ext w (w.alloc (.cells #[I 0,I 0] 73)):=(Ext.refl w).alloc _;have HB:Hid ((w.alloc (.cells #[I 0,I 0] 73)).heap[w.heap.size]?=some (.cells #[I 0,I 0] 73 (0,0))):=heap_alloc_new _ _;have d1:=e0.cell c1;clear c1 c2;go_enter Tryz.func142,Tryz.ntmps142
 go_wp2_with fail
 refine zam 8 [none,some (.inl (I (1+2 * (i:Int)))),none,none,none,none,none,none] (by kernel_rfl) (by kernel_rfl) ?_ ?_
 ·exact ⟨trivial,trivial,trivial,trivial,trivial,trivial,trivial,trivial,trivial⟩
 (refine zar (fun K hK=>?_); go_simp; refine hK _ ?_; clear hK K)
 refine zd0 _ rfl (fun w' hw' _=>?_) ?_
 ·have hg:=zeg (zeD i w' (by omega) (by omega));unfold zaT;go_simp
  exact ⟨Ext.refl _,hg⟩
 iterate 4 (refine zar (fun K hK=>?_); go_simp; refine hK _ ?_; clear hK K)
 refine zaE (I p) rfl (fun w' hw'=>by have:=hw'.cell d1; go_simp) ?_;(refine zar (fun K hK=>?_); go_simp; refine hK _ ?_; clear hK K)
 refine za0 ?_;intro w4 he4 _;have hb4:w4.heap[w.heap.size]?=some (.cells #[I 0,I 0] 73 (0,0)):=by rw [he4.block _ (by simp)]; exact HB.o
 obtain ⟨x0,x1,f0,f1⟩:=zaI hb4 (Ext.refl _);go_wp2
 obtain ⟨z0,z1,-,-⟩:=zaI (zmI hb4 (I (1+2 * (i:Int))) (I p)) (Ext.refl _);clear x0 x1 f0 f1;refine bodyPost_ret (by simp [results,Tryz.results142,go_sem,z0,z1]; rfl) rfl ?_;exact ⟨rfl,((e0.trans he4).setCell (Nat.le_refl _) _).setCell (Nat.le_refl _) _⟩

theorem ze6 (v:Value) (l:List (Int×Int)) (i:Nat) (w:World) (hv:zaw w v l) (hi:i < l.length) (hl:l.length<=5) :
  Calls Tryz.prog 129 #[v,I i] w fun e w'=>e=.returned (.agg #[I (2+2 * (i:Int)),I (l.getD i (0,0)).2])/\Ext w w':=by
 obtain ⟨ao,cap,rfl,h1,h2,h3⟩:=hv.form;unfold maxLen at h2;obtain ⟨b,off,rfl,c1,c2⟩:=h3 i hi;generalize (l.getD i (0,0)).1=p at *;generalize (l.getD i (0,0)).2=q at *;clear hv h3;have e0:Ext w (w.alloc (.cells #[I 0,I 0] 73)):=(Ext.refl w).alloc _;have HB:Hid ((w.alloc (.cells #[I 0,I 0] 73)).heap[w.heap.size]?=some (.cells #[I 0,I 0] 73 (0,0))):=heap_alloc_new _ _;have d1:=e0.cell c2;clear c1 c2;go_enter Tryz.func129,Tryz.ntmps129
 go_wp2_with fail
 refine zam 8 [none,some (.inl (I (1+2 * (i:Int)+1))),none,none,none,none,none,none] (by kernel_rfl) (by kernel_rfl) ?_ ?_
 ·exact ⟨trivial,trivial,trivial,trivial,trivial,trivial,trivial,trivial,trivial⟩
 (refine zar (fun K hK=>?_); go_simp; refine hK _ ?_; clear hK K)
 refine zd0 _ rfl (fun w' hw' _=>?_) ?_
 ·have hg:=zeg (zgv i w' (by omega) (by omega));unfold zaT;go_simp
  exact ⟨Ext.refl _,hg⟩
 iterate 4 (refine zar (fun K hK=>?_); go_simp; refine hK _ ?_; clear hK K)
 refine zaE (I q) rfl (fun w' hw'=>by have:=hw'.cell d1; go_simp) ?_;(refine zar (fun K hK=>?_); go_simp; refine hK _ ?_; clear hK K)
 refine za0 ?_;intro w4 he4 _;have hb4:w4.heap[w.heap.size]?=some (.cells #[I 0,I 0] 73 (0,0)):=by rw [he4.block _ (by simp)]; exact HB.o
 obtain ⟨x0,x1,f0,f1⟩:=zaI hb4 (Ext.refl _);go_wp2
 obtain ⟨z0,z1,-,-⟩:=zaI (zmI hb4 (I (1+2 * (i:Int)+1)) (I q)) (Ext.refl _);clear x0 x1 f0 f1;refine bodyPost_ret (by simp [results,Tryz.results129,go_sem,z0,z1]; rfl) rfl ?_;exact ⟨by rw [show 2+2 * (i:Int)=1+2 * (i:Int)+1 by omega],((e0.trans he4).setCell (Nat.le_refl _) _).setCell (Nat.le_refl _) _⟩

end Go.Proofs.YtdmipnnfoolelagGreat

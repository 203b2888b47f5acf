/- zbb of the proof, merged: M4 M5 M6 M7 M8 W5 M9 P1. -/
import Derived.Test.YtdmipnnfoolelagGreatDoorKTA
import Derived.Test.YtdmipnnfoolelagGreatDoorKTX
import Derived.Test.YtdmipnnfoolelagGreatDoorKTB
import Derived.Test.YtdmipnnfoolelagGreatDoorKTN
import Derived.Test.YtdmipnnfoolelagGreatDoorKTO
import Derived.Test.YtdmipnnfoolelagGreatDoorKTC
set_option maxHeartbeats 1000000
set_option maxRecDepth 100000

namespace Go.Proofs.YtdmipnnfoolelagGreatDoor
open Go.RowKit Go.Mk

def zfX (w:World) (g:Nat) (l:List (Int×Int)) (r:Rp) (e:Ending) (w':World):Prop :=
 ∃ u v n lo,e=.returned (.tuple #[u,.agg #[I r.err,I r.n]])/\w'.ownsRow g 52 2 v n (zaC lo)/\(∀ w2:World,w2.ownsRow g 52 2 v n (zaC lo)->zar w2 u l)/\w.grownBy w' (some g)

abbrev zc5 (w:World) (g:Nat) (l:List (Int×Int)):Prop:=w.ownsRow g 52 2 (.slice (some ⟨g,0,none⟩) l.length l.length) l.length (zaC l)

theorem zb6 {w w1:World} {g b n:Nat} {u v x y:Value} {l l':List (Int×Int)} {r:Rp} (hb:w.heap.size<=b) (ho:w1.ownsRow g 52 2 v n (zaC l)) (hv:v.ownBlock≠some b) (hg:w.grownBy w1 (some g))
  (hu:∀ w2:World,w2.ownsRow g 52 2 v n (zaC l)->zar w2 u l'):zfX w g l' r (.returned (.tuple #[u,.agg #[I r.err,I r.n]])) ((w1.setCell ⟨b,0,none⟩ x).setCell ⟨b,1,none⟩ y) :=
 ⟨u,v,n,l,rfl,za1 (za1 ho hv _ _) hv _ _,hu,zku (zku hg hb _ _) hb _ _⟩

theorem zlZ {w:World} {g:Nat} {l:List (Int×Int)} (ho:zc5 w g l):(Value.slice (some ⟨g,0,none⟩) l.length l.length).ownBlock≠some w.heap.size:=fun e=>by
 have h:=(ho.lt g rfl).2
 have e2:g=w.heap.size:=by simpa [Value.ownBlock] using e
 rw [e2] at h
 exact Nat.lt_irrefl _ h

theorem zpC (l:List (Int×Int)) (g:Nat) (w:World) (ho:zc5 w g l) :
  Calls Tryz.prog 163 #[.slice (some ⟨g,0,none⟩) l.length l.length] w fun e w'=>zfX w g l ⟨0,l.length⟩ e w':=by
 go_enter Tryz.func163,Tryz.ntmps163
 go_wp2_with fail
 refine Calls.exts (zdU _ _ _) (fun w1 e1=>?_);obtain ⟨c0,c1,f0,f1⟩:=zlO e1;go_wp2
 try simp only [Exit.inBlock,Exit.then]
 refine bodyPost_ret (by simp [results,Tryz.results163,go_sem,c0,c1]; rfl) rfl ?_;have he:Ext w w1:=((Ext.refl w).alloc _).trans e1;exact zb6 (Nat.le_refl _) (zai ho he) (zlZ ho) (he.grownBy _) (fun w2 h2=>zas h2)

theorem zb8 {w:World} {g:Nat} {l:List (Int×Int)} (ho:zc5 w g l) (i:Nat) (hi:i < l.length):w.cell? ⟨g,i * 2,none⟩=some (I (l.getD i (0,0)).1)/\w.cell? ⟨g,i * 2+1,none⟩=some (I (l.getD i (0,0)).2):=by
 obtain ⟨a,b⟩:=zeW l i hi
 rw [<- ho.cellAt _ (by omega)] at a b
 exact ⟨a,b⟩

theorem zti (l:List (Int×Int)) (g i:Nat) (w:World) (ho:zc5 w g l) (hi:i < l.length) :
  Calls Tryz.prog 166 #[.slice (some ⟨g,0,none⟩) l.length l.length,I i] w fun e w'=>zfX w g l ⟨0,num l i⟩ e w':=by
 have hc:∀ o,(w.alloc o).cell? ⟨g,i * 2+1,none⟩=some (I (num l i)):=fun o=>(zb8 (ho.alloc o) i hi).2;go_enter Tryz.func166,Tryz.ntmps166
 go_wp2_with fail
 refine Calls.exts (zdU _ _ _) (fun w1 e1=>?_);obtain ⟨c0,c1,f0,f1⟩:=zlO e1;go_wp2
 try simp only [Exit.inBlock,Exit.then]
 refine bodyPost_ret (by simp [results,Tryz.results166,go_sem,c0,c1]; rfl) rfl ?_;have he:Ext w w1:=((Ext.refl w).alloc _).trans e1;exact zb6 (Nat.le_refl _) (zai ho he) (zlZ ho) (he.grownBy _) (fun w2 h2=>zas h2)

theorem zq2 (l:List (Int×Int)) (g i:Nat) (w:World) (ho:zc5 w g l) (hi:i < l.length) (hr:l.length * 16<=140737488355328) :
  Calls Tryz.prog 167 #[.slice (some ⟨g,0,none⟩) l.length l.length,I i] w fun e w'=>zfX w g ((l.set i (l.getD (l.length - 1) (0,0))).take (l.length - 1)) ⟨0,num l i⟩ e w':=by
 have hg:g < w.heap.size:=(ho.lt g rfl).2;obtain ⟨hc1,hc2⟩:=zb8 ho i hi;obtain ⟨hc3,hc4⟩:=zb8 ho (l.length - 1) (by omega);have hf1:w.frozen? ⟨g,i * 2,none⟩=false:=ho.frozenAt _;have hf2:w.frozen? ⟨g,i * 2+1,none⟩=false:=ho.frozenAt _;have HN:Hid (num l i=(l.getD i (0,0)).2):=rfl;generalize hL:l.length - 1=L at *;have hLi:(l.length:Int) - 1=(L:Int):=by omega
 have hLl:(L:Int) < (l.length:Int):=by omega
 have hLt:(L:Int).toNat=L:=by omega
 have HL:Hid (l.length - 1=L):=hL;clear hL;generalize hQ:l.getD L (0,0)=q at *;have HQ:Hid (l.getD L (0,0)=q):=hQ;clear hQ;generalize hP:l.getD i (0,0)=p at *;obtain ⟨p1,p2⟩:=p;obtain ⟨q1,q2⟩:=q;simp only [] at hc1 hc2 hc3 hc4;rw [HN.o];clear hP HN;go_enter Tryz.func167,Tryz.ntmps167
 go_wp2_with fail
 refine Calls.exts (zdU _ _ _) (fun w1 e1=>?_);obtain ⟨c0,c1,f0,f1⟩:=zut w.heap.size e1 (by simp);have s1:=ho.stored (i * 2) (I q1);have s2:=s1.1.stored (i * 2+1) (I q2);have ho':=zai s2.1 (((Ext.refl _).alloc _).trans e1);have hg':=zaz (zaz s1.2 s2.2) ((((Ext.refl _).alloc _).trans e1).grownBy _);clear s1 s2 hc1 hc2 hc3 hc4 hf1 hf2 e1;go_wp2
 try simp only [Exit.inBlock,Exit.then]
 refine bodyPost_ret (by simp [results,Tryz.results167,go_sem,c0,c1]; rfl) rfl ?_;have hlen:(l.set i (q1,q2)).length=l.length:=by simp
 rw [show ((zaC l).set (i * 2) (I q1)).set (i * 2+1) (I q2)=zaC (l.set i (q1,q2)) from (zfr l i (q1,q2)).symm,<- hlen] at ho';exact zb6 (Nat.le_refl _) ho' (by rw [hlen]; exact zlZ ho) hg' (fun w2 h2=>by have:=(zas h2).take L (by rw [hlen]; omega); rwa [hlen] at this)

theorem zfi {w:World} {g:Nat} {l:List (Int×Int)} (ho:zc5 w g l) (i:Nat) (hi:i < l.length) (n:Int):zc5 (w.setCell ⟨g,i * 2+1,none⟩ (I n)) g (put1 l i n):=by
 have h:=(ho.stored (i * 2+1) (I n)).1
 unfold zc5
 rw [zay]
 have e:(zaC l).set (i * 2+1) (I n)=zaC (put1 l i n):=by
  unfold put1
  rw [zfr]
  congr 1
  simp only []
  have h1:=(zeW l i hi).1
  obtain ⟨hlt,h2⟩:=List.getElem?_eq_some_iff.1 h1
  rw [<- h2,List.set_getElem_self]
 rw [<- e]
 exact h

theorem zea {w:World} {g:Nat} {l:List (Int×Int)} (ho:zc5 w g l) {n m:Nat}:(Value.slice (some ⟨g,0,none⟩) n m).ownBlock≠some w.heap.size:=zlZ ho

theorem zs8 (l:List (Int×Int)) (g i b:Nat) (n:Int) (w:World) (ho:zc5 w g l) (hi:i < l.length) (hb:w.cell? ⟨b,0,none⟩=some (I n)) (hbl:b < w.heap.size)
  (hn:-1073741824<=n/\n<=1073741824) (hm:-1073741824<=num l i/\num l i<=1073741824) :
  Calls Tryz.prog 177 #[.slice (some ⟨g,0,none⟩) l.length l.length,I i,.pointer (some ⟨b,0,none⟩)] w fun e w' =>
   if -1073741824<=num l i+n/\num l i+n<=1073741824 then zfX w g (put1 l i (num l i+n)) ⟨0,num l i+n⟩ e w' else zfX w g l ⟨3,0⟩ e w':=by
 have hg:g < w.heap.size:=(ho.lt g rfl).2;obtain ⟨hc1,hc2⟩:=zb8 ho i hi;replace hc2:w.cell? ⟨g,i * 2+1,none⟩=some (I (num l i)):=hc2;clear hc1;have hf2:w.frozen? ⟨g,i * 2+1,none⟩=false:=ho.frozenAt _;have HO:Hid (∀ wx m,Ext w wx->zc5 (wx.setCell ⟨g,i * 2+1,none⟩ (I m)) g (put1 l i m)):=fun wx m hx=>zfi (zai ho hx) i hi m;generalize num l i=m at *;obtain ⟨n1,n2⟩:=hn;obtain ⟨m1,m2⟩:=hm;by_cases hs:-1073741824<=m+n/\m+n<=1073741824
 ·simp only [hs,and_self,if_true];obtain ⟨s1,s2⟩:=hs;go_enter Tryz.func177,Tryz.ntmps177
  go_wp2_with fail
  go_quiet (fail)
  go_wp2_with (go_at_call 63; refine Calls.same (zcV _ _ _ _) ?_)
  refine Calls.exts (zdU _ _ _) (fun w1 e1=>?_);obtain ⟨c0,c1,f0,f1⟩:=zbV (zlH hg) e1;have ho':=zai (HO.o _ _ (((Ext.refl w).alloc _).drewN _)) e1;have hg':=zaz (zaz ((((Ext.refl w).alloc _).drewN nq).grownBy (some g)) (zcx _ g (i * 2+1) (I (m+n)))) (e1.grownBy _);go_wp2
  try simp only [Exit.inBlock,Exit.then]
  refine bodyPost_ret (by simp [results,Tryz.results177,go_sem,c0,c1]; rfl) rfl ?_;exact zb6 (Nat.le_refl _) ho' (zea ho) hg' (fun w2 h2=>by have:=zas h2; rwa [zay] at this)
 ·simp only [hs,if_false];have hs2:m+n < -1073741824∨1073741824 < m+n:=by omega
  clear hs;rcases hs2 with hs2 | hs2
  ·have d1:decide (-1073741824<=m+n)=false:=by simp; omega
   go_enter Tryz.func177,Tryz.ntmps177
   go_wp2_with fail
   go_quiet (fail)
   go_wp2_with (go_at_call 63; refine Calls.same (zcV _ _ _ _) ?_)
   refine Calls.exts (zej _ _ _) (fun w1 e1=>?_);obtain ⟨c0,c1,f0,f1⟩:=zbV (zgE w _ _) e1;have he:Ext w w1:=(((Ext.refl w).alloc _).drewN _).trans e1;go_wp2
   try simp only [Exit.inBlock,Exit.then]
   refine bodyPost_ret (by simp [results,Tryz.results177,go_sem,c0,c1]; rfl) rfl ?_;exact zb6 (Nat.le_refl _) (zai ho he) (zea ho) (he.grownBy _) (fun w2 h2=>zas h2)
  ·have d1:decide (m+n<=1073741824)=false:=by simp; omega
   go_enter Tryz.func177,Tryz.ntmps177
   go_wp2_with fail
   go_quiet (fail)
   go_wp2_with (go_at_call 63; refine Calls.same (zcV _ _ _ _) ?_)
   refine Calls.exts (zej _ _ _) (fun w1 e1=>?_);obtain ⟨c0,c1,f0,f1⟩:=zbV (zgE w _ _) e1;have he:Ext w w1:=(((Ext.refl w).alloc _).drewN _).trans e1;go_wp2
   try simp only [Exit.inBlock,Exit.then]
   refine bodyPost_ret (by simp [results,Tryz.results177,go_sem,c0,c1]; rfl) rfl ?_;exact zb6 (Nat.le_refl _) (zai ho he) (zea ho) (he.grownBy _) (fun w2 h2=>zas h2)

open Go.RowKit Go.Mk

theorem zr1 (l:List (Int×Int)) (g i b:Nat) (name:Int) (w:World) (ho:zc5 w g l) (hi:i < l.length) (hb:w.cell? ⟨b,0,none⟩=some (I name)) (hbl:b < w.heap.size) :
  Calls Tryz.prog 178 #[.slice (some ⟨g,0,none⟩) l.length l.length,I i,.pointer (some ⟨b,0,none⟩)] w fun e w' =>
   if at1 l name < l.length then zfX w g (put1 (put1 l i (num l (at1 l name))) (at1 l name) (num l i)) ⟨0,num l (at1 l name)⟩ e w' else zfX w g l ⟨6,0⟩ e w':=by
 have hg:g < w.heap.size:=(ho.lt g rfl).2;by_cases ha:at1 l name < l.length
 case neg =>
  simp only [ha,if_false];have hf:zei l name=-1:=by unfold zei; rw [if_neg ha]
  go_enter Tryz.func178,Tryz.ntmps178
  go_wp2_with fail
  refine Calls.exts (zeu _ l name _ (zas (ho.alloc _))) (fun wa ea=>?_);rw [hf];go_wp2_with fail
  refine Calls.exts (zej _ _ _) (fun w1 e1=>?_);obtain ⟨c0,c1,f0,f1⟩:=zbV (heap_alloc_new w _) (ea.trans e1);have he:Ext w w1:=(((Ext.refl w).alloc _).trans ea).trans e1;go_wp2
  try simp only [Exit.inBlock,Exit.then]
  refine bodyPost_ret (by simp [results,Tryz.results178,go_sem,c0,c1]; rfl) rfl ?_;exact zb6 (Nat.le_refl _) (zai ho he) (zea ho) (he.grownBy _) (fun w2 h2=>zas h2)
 simp only [ha,if_true];have hf:zei l name=(at1 l name:Int):=by unfold zei; rw [if_pos ha]
 generalize hA:at1 l name=A at *;have HS:Hid (∀ wx,Ext w wx->zc5 wx g l):=fun wx hx=>zai ho hx;go_enter Tryz.func178,Tryz.ntmps178
 go_wp2_with fail
 refine Calls.exts (zeu _ l name _ (zas (ho.alloc _))) (fun wa ea=>?_);rw [hf];have hoa:zc5 wa g l:=HS.o wa (((Ext.refl w).alloc _).trans ea);obtain ⟨k1,k2⟩:=zb8 hoa i hi;obtain ⟨k3,k4⟩:=zb8 hoa A ha;have f2:wa.frozen? ⟨g,i * 2+1,none⟩=false:=hoa.frozenAt _;have f4:wa.frozen? ⟨g,A * 2+1,none⟩=false:=hoa.frozenAt _;replace k2:wa.cell? ⟨g,i * 2+1,none⟩=some (I (num l i)):=k2;replace k4:wa.cell? ⟨g,A * 2+1,none⟩=some (I (num l A)):=k4;clear k1 k3
 have HW:Hid (∀ x y:Int,zc5 (((wa.setCell ⟨g,i * 2+1,none⟩ (I x)).setCell ⟨g,A * 2+1,none⟩ (I y)).drew) g (put1 (put1 l i x) A y)):=fun x y =>
  zai (zfi (zfi hoa i hi x) A (by rw [zay]; exact ha) y) (Ext.refl _).drew
 have HG:Hid (∀ x y:Value,wa.grownBy (((wa.setCell ⟨g,i * 2+1,none⟩ x).setCell ⟨g,A * 2+1,none⟩ y).drew) (some g)):=fun x y =>
  zjg (zaz (zcx _ _ _ _) (zcx _ _ _ _))
 have HB:Hid (∀ x y:Value,(((wa.setCell ⟨g,i * 2+1,none⟩ x).setCell ⟨g,A * 2+1,none⟩ y).drew).heap[w.heap.size]?=some (.cells #[I 0,I 0] 38)):=fun x y=>by
  show ((wa.setCell ⟨g,i * 2+1,none⟩ x).setCell ⟨g,A * 2+1,none⟩ y).heap[w.heap.size]?=_
  rw [Below.heap_setCell _ _ _ _ (fun e=>by simp only [] at e; omega),Below.heap_setCell _ _ _ _ (fun e=>by simp only [] at e; omega)];exact zbk ea
 have HN:Hid (num (put1 (put1 l i (num l A)) A (num l i)) i=num l A):=by
  unfold Hid;rw [zna _ _ _ _ (by rw [zay]; exact ha),zna _ _ _ _ hi,if_pos rfl];by_cases e:A=i
  ·rw [if_pos e,e]
  ·rw [if_neg e]
 generalize hm:num l i=m at *;have HM:Hid (num l i=m):=hm;clear hm;generalize hn:num l A=n at *;have HNA:Hid (num l A=n):=hn;clear hn;have hgw:w.grownBy wa (some g):=(((Ext.refl w).alloc _).trans ea).grownBy _;by_cases hiA:i=A
 ·subst hiA
  have hmn:n=m:=by
   have:=k2.symm.trans k4;simpa using this.symm
  subst hmn;go_wp2_with fail
  go_region
  have hob:=HW.o n n;have hgb:=HG.o (I n) (I n);have hbb:=HB.o (I n) (I n);have kb:=(zb8 hob i (by rw [zay,zay]; exact hi)).2;generalize ((wa.setCell ⟨g,i * 2+1,none⟩ (I n)).setCell ⟨g,i * 2+1,none⟩ (I n)).drew=wb at *;replace kb:wb.cell? ⟨g,i * 2+1,none⟩=some (I n):=by rw [kb]; exact congrArg (some ∘ I) HN.o
  clear k2 k4 f2 f4;go_wp2_with fail
  refine Calls.exts (zdU _ _ _) (fun w1 e1=>?_);obtain ⟨c0,c1,f0,f1⟩:=zbV hbb e1;go_wp2
  try simp only [Exit.inBlock,Exit.then]
  refine bodyPost_ret (by simp [results,Tryz.results178,go_sem,c0,c1]; rfl) rfl ?_;rw [HNA.o];exact zb6 (r:=⟨0,n⟩) (Nat.le_refl _) (zai hob e1) (zea ho) (zaz (zaz hgw hgb) (e1.grownBy _)) (fun w2 h2=>by have:=zas h2; rwa [zay,zay] at this)
 ·have d1:¬ (i * 2+1=A * 2+1):=by omega
  have d2:¬ (A * 2+1=i * 2+1):=by omega
  go_wp2_with fail
  go_region
  have hob:=HW.o n m;have hgb:=HG.o (I n) (I m);have hbb:=HB.o (I n) (I m);have kb:=(zb8 hob i (by rw [zay,zay]; exact hi)).2;generalize ((wa.setCell ⟨g,i * 2+1,none⟩ (I n)).setCell ⟨g,A * 2+1,none⟩ (I m)).drew=wb at *;replace kb:wb.cell? ⟨g,i * 2+1,none⟩=some (I n):=by rw [kb]; exact congrArg (some ∘ I) HN.o
  clear k2 k4 f2 f4;go_wp2_with fail
  refine Calls.exts (zdU _ _ _) (fun w1 e1=>?_);obtain ⟨c0,c1,f0,f1⟩:=zbV hbb e1;go_wp2
  try simp only [Exit.inBlock,Exit.then]
  refine bodyPost_ret (by simp [results,Tryz.results178,go_sem,c0,c1]; rfl) rfl ?_;rw [HNA.o,HM.o];exact zb6 (r:=⟨0,n⟩) (Nat.le_refl _) (zai hob e1) (zea ho) (zaz (zaz hgw hgb) (e1.grownBy _)) (fun w2 h2=>by have:=zas h2; rwa [zay,zay] at this)

theorem ztw (l:List (Int×Int)) (g b1 b2:Nat) (name n:Int) (w:World) (ho:zc5 w g l) (hr:(l.length+1) * 16<=140737488355328) (h1:w.cell? ⟨b1,0,none⟩=some (I name)) (hb1:b1 < w.heap.size) (h2:w.cell? ⟨b2,0,none⟩=some (I n)) :
  Calls Tryz.prog 174 #[.slice (some ⟨g,0,none⟩) l.length l.length,.pointer (some ⟨b1,0,none⟩),.pointer (some ⟨b2,0,none⟩)] w fun e w' =>
   if at1 l name < l.length then zfX w g (put1 l (at1 l name) n) ⟨0,num l (at1 l name)⟩ e w' else if 5<=l.length then zfX w g l ⟨9,0⟩ e w' else zfX w g (l++[(name,n)]) ⟨0,0⟩ e w':=by
 have hg:g < w.heap.size:=(ho.lt g rfl).2;obtain ⟨i0,hi0,hz0,hz1,hz2⟩:=info_parts Tryz.infoWrite2;by_cases ha:at1 l name < l.length
 ·simp only [ha,if_true];have hf:zei l name=(at1 l name:Int):=by unfold zei; rw [if_pos ha]
  generalize hA:at1 l name=A at *;have HS:Hid (∀ wx,Ext w wx->zc5 wx g l):=fun wx hx=>zai ho hx;go_enter Tryz.func174,Tryz.ntmps174
  go_wp2_with fail
  refine Calls.exts (zeu _ l name _ (zas (ho.alloc _))) (fun wa ea=>?_);rw [hf];have hea:Ext w wa:=((Ext.refl w).alloc _).trans ea;have hoa:zc5 wa g l:=HS.o wa hea;obtain ⟨_,k2⟩:=zb8 hoa A ha;have f2:wa.frozen? ⟨g,A * 2+1,none⟩=false:=hoa.frozenAt _;replace k2:wa.cell? ⟨g,A * 2+1,none⟩=some (I (num l A)):=k2;have g2:=hea.cell h2;have hob:=zfi hoa A ha n;have hgb:w.grownBy _ (some g):=zaz (hea.grownBy (some g)) (zcx wa g (A * 2+1) (I n))
  have hbb:(wa.setCell ⟨g,A * 2+1,none⟩ (I n)).heap[w.heap.size]?=some (.cells #[I 0,I 0] 38):=by
   rw [Below.heap_setCell _ _ _ _ (fun e=>by simp only [] at e; omega)];exact zbk ea
  go_wp2_with fail
  refine Calls.exts (zdU _ _ _) (fun w1 e1=>?_);obtain ⟨c0,c1,f0,f1⟩:=zbV hbb e1;go_wp2
  try simp only [Exit.inBlock,Exit.then]
  refine bodyPost_ret (by simp [results,Tryz.results174,go_sem,c0,c1]; rfl) rfl ?_;exact zb6 (Nat.le_refl _) (zai hob e1) (zea ho) (zaz hgb (e1.grownBy _)) (fun w2 h2=>by have:=zas h2; rwa [zay] at this)
 simp only [ha,if_false];have hf:zei l name=-1:=by unfold zei; rw [if_neg ha]
 by_cases h5:5<=l.length
 ·simp only [h5,if_true];have h5':(5:Int)<=(l.length:Int):=by omega
  go_enter Tryz.func174,Tryz.ntmps174
  go_wp2_with fail
  refine Calls.exts (zeu _ l name _ (zas (ho.alloc _))) (fun wa ea=>?_);rw [hf];go_wp2_with fail
  refine Calls.exts (zej _ _ _) (fun w1 e1=>?_);obtain ⟨c0,c1,f0,f1⟩:=zbV (heap_alloc_new w _) (ea.trans e1);have he:Ext w w1:=(((Ext.refl w).alloc _).trans ea).trans e1;go_wp2
  try simp only [Exit.inBlock,Exit.then]
  refine bodyPost_ret (by simp [results,Tryz.results174,go_sem,c0,c1]; rfl) rfl ?_;exact zb6 (Nat.le_refl _) (zai ho he) (zea ho) (he.grownBy _) (fun w2 h2=>zas h2)
 ·simp only [h5,if_false];have h5':(l.length:Int) < 5:=by omega
  go_enter Tryz.func174,Tryz.ntmps174
  go_wp2_with fail
  refine Calls.exts (zeu _ l name _ (zas (ho.alloc _))) (fun wa ea=>?_);rw [hf];have hea:Ext w wa:=((Ext.refl w).alloc _).trans ea;have g1:=hea.cell h1;have g2:=hea.cell h2;have hoa:zc5 wa g l:=zai ho hea;have hba:=zbk ea;have hsa:g<=wa.heap.size:=Nat.le_trans (Nat.le_of_lt hg) hea.size;have hbs:w.heap.size < wa.heap.size:=(Array.getElem?_eq_some_iff.1 hba).1;go_wp2_with (at_builtin; refine zaJ _ rfl _ _ 26 rfl g 52 i0 (.agg #[.int .i64 0,.int .i64 0]) 2 16 zj2 hi0 hz0 hz1 hz2 rfl (by decide) _ _ _ rfl (hoa.alloc _) _ rfl 1 [I name,I n] (zgY (l:=[(name,n)]) _ _ 1 rfl rfl (by decide)) (zdf [(name,n)]) (by omega) (by decide) (by simp; omega) ?_; intro v' w3 ho3 hg3)
  have hb3:w3.heap[w.heap.size]?=some (.cells #[I 0,I 0] 38):=by
   have hg4:(wa.alloc (.cells #[I name,I n] 52)).grownBy w3 (some g):=hg3;rw [hg4.block w.heap.size (by simp; omega) (fun e=>by have e2:w.heap.size=g:=Option.some.inj e; omega),heap_alloc_old _ _ hbs];exact hba
  have hgw:w.grownBy w3 (some g):=zaz ((hea.alloc _).grownBy _) hg3;refine Calls.exts (zdU _ _ _) (fun w1 e1=>?_);obtain ⟨c0,c1,f0,f1⟩:=zbV hb3 e1;go_wp2
  try simp only [Exit.inBlock,Exit.then]
  refine bodyPost_ret (by simp [results,Tryz.results174,go_sem,c0,c1]; rfl) rfl ?_;rw [show zaC l++[I name,I n]=zaC (l++[(name,n)]) from (zcy l [(name,n)]).symm] at ho3;exact zb6 (Nat.le_refl _) (zai ho3 e1) (zaH ho3 hb3 (by decide)) (zaz hgw (e1.grownBy _)) (fun w2 h2=>zas h2)

open Go.RowKit Go.Mk

def zb3 (F:FuncId):Prop:=∀ (args:Array Value) (w:World),(callFunc F args).run Tryz.prog w=.ok (.enter F args) w
theorem enters_get:zb3 166:=fun _ _=>by kernel_rfl
theorem enters_drop:zb3 167:=fun _ _=>by kernel_rfl
theorem enters_add:zb3 177:=fun _ _=>by kernel_rfl
theorem enters_swap:zb3 178:=fun _ _=>by kernel_rfl
theorem enters_there:zb3 176:=fun _ _=>by kernel_rfl
theorem enters_put:zb3 174:=fun _ _=>by kernel_rfl
theorem enters_count:zb3 163:=fun _ _=>by kernel_rfl
theorem zpN (F:FuncId) (caps:Array Value) (l:List (Int×Int)) (g b1 b2:Nat) (name:Int) (w:World) (l':List (Int×Int)) (r:Rp) (ho:zc5 w g l) (h1:w.cell? ⟨b1,0,none⟩=some (I name)) (hb1:b1 < w.heap.size)
  (h2:w.cell? ⟨b2,0,none⟩=some (.func (.func F) #[] caps))
  (hE:zb3 F) (hF:at1 l name < l.length->∀ wa,Ext w wa->Calls Tryz.prog F (#[.slice (some ⟨g,0,none⟩) l.length l.length,I (at1 l name)]++caps) wa fun e w'=>zfX wa g l' r e w') :
  Calls Tryz.prog 176 #[.slice (some ⟨g,0,none⟩) l.length l.length,.pointer (some ⟨b1,0,none⟩),.pointer (some ⟨b2,0,none⟩)] w fun e w' =>
   if at1 l name < l.length then zfX w g l' r e w' else zfX w g l ⟨6,0⟩ e w':=by
 have hg:g < w.heap.size:=(ho.lt g rfl).2;by_cases ha:at1 l name < l.length
 case neg =>
  simp only [ha,if_false];have hf:zei l name=-1:=by unfold zei; rw [if_neg ha]
  clear hF;go_enter Tryz.func176,Tryz.ntmps176
  go_wp2_with fail
  refine Calls.exts (zeu _ l name _ (zas (ho.alloc _))) (fun wa ea=>?_);rw [hf];go_wp2_with fail
  refine Calls.exts (zej _ _ _) (fun w1 e1=>?_);obtain ⟨c0,c1,f0,f1⟩:=zbV (heap_alloc_new w _) (ea.trans e1);have he:Ext w w1:=(((Ext.refl w).alloc _).trans ea).trans e1;go_wp2
  try simp only [Exit.inBlock,Exit.then]
  refine bodyPost_ret (by simp [results,Tryz.results176,go_sem,c0,c1]; rfl) rfl ?_;exact zb6 (Nat.le_refl _) (zai ho he) (zea ho) (he.grownBy _) (fun w2 h2=>zas h2)
 simp only [ha,if_true];have hf:zei l name=(at1 l name:Int):=by unfold zei; rw [if_pos ha]
 have HF:Hid (∀ wa,Ext w wa->Calls Tryz.prog F (#[.slice (some ⟨g,0,none⟩) l.length l.length,I (at1 l name)]++caps) wa fun e w'=>zfX wa g l' r e w'):=hF ha;clear hF;generalize hA:at1 l name=A at *;go_enter Tryz.func176,Tryz.ntmps176
 go_wp2_with fail
 refine Calls.exts (zeu _ l name _ (zas (ho.alloc _))) (fun wa ea=>?_);rw [hf];have hea:Ext w wa:=((Ext.refl w).alloc _).trans ea;have g2:=hea.cell h2;have hE2:=hE;unfold zb3 at hE2;go_wp2_with fail
 refine (HF.o wa hea).mono ?_;rintro e w1 ⟨u,v,n,lo,rfl,hov,hu,hgr⟩
 have hb1:w1.heap[w.heap.size]?=some (.cells #[I 0,I 0] 38):=by
  rw [hgr.block w.heap.size (Array.getElem?_eq_some_iff.1 (zbk ea)).1 (fun e=>by have e2:w.heap.size=g:=Option.some.inj e; omega)];exact zbk ea
 obtain ⟨c0,c1,f0,f1⟩:=zbV hb1 (Ext.refl w1);clear hE2;go_wp2
 try simp only [Exit.inBlock,Exit.then]
 refine bodyPost_ret (by simp [results,Tryz.results176,go_sem,c0,c1]; rfl) rfl ?_;exact zb6 (Nat.le_refl _) hov (zaH hov hb1 (by decide)) (zaz (hea.grownBy _) hgr) hu

open Go.RowKit Go.Mk

def zhC (c:Cl) (v:Value) (w:World):Prop:=∃ F caps,v=.func (.func F) #[] caps/\zb3 F/\∀ l g wa,Ext w wa->zc5 wa g l->Okw l->Calls Tryz.prog F (#[.slice (some ⟨g,0,none⟩) l.length l.length]++caps) wa fun e w'=>zfX wa g (zaO l c).1 (zaO l c).2 e w'

def zgy (c:Cl) (v:Value) (w:World):Prop:=∃ F caps,v=.func (.func F) #[] caps/\zb3 F/\∀ l g wa,Ext w wa->zc5 wa g l->Okw l->at1 l c.name < l.length->Calls Tryz.prog F (#[.slice (some ⟨g,0,none⟩) l.length l.length,I (at1 l c.name)]++caps) wa fun e w'=>zfX wa g (zaO l c).1 (zaO l c).2 e w'

theorem zms (c:Cl):∀ v,zb9 (zhC c v):=fun _ _ _ he ⟨F,caps,h1,h2,h3⟩=>⟨F,caps,h1,h2,fun l g wa hx=>h3 l g wa (he.trans hx)⟩

theorem zmc (c:Cl):∀ v,zb9 (zgy c v):=fun _ _ _ he ⟨F,caps,h1,h2,h3⟩=>⟨F,caps,h1,h2,fun l g wa hx=>h3 l g wa (he.trans hx)⟩

theorem zrG (a o n:Int) (w:World):zgy ⟨2,a,o,n⟩ (.func (.func 166) #[] #[]) w :=
 ⟨_,_,rfl,enters_get,fun l g wa _ ho _ ha=>(zti l g _ wa ho ha).mono fun e w' h=>by rw [zmL,if_neg (by simpa using ha)]; exact h⟩

theorem zpU (a o n:Int) (w:World):zgy ⟨3,a,o,n⟩ (.func (.func 167) #[] #[]) w :=
 ⟨_,_,rfl,enters_drop,fun l g wa _ ho hk ha=>(zq2 l g _ wa ho ha (by have:=hk.len; omega)).mono fun e w' h=>by rw [zhY,if_neg (by simpa using ha)]; exact h⟩

theorem znK (a o n:Int) (w:World):zhC ⟨5,a,o,n⟩ (.func (.func 163) #[] #[]) w :=
 ⟨_,_,rfl,enters_count,fun l g wa _ ho _=>zpC l g wa ho⟩

theorem zqI (a o n:Int) (w:World):Calls Tryz.prog 164 #[I a,I n] w fun e w'=>∃ r,e=.returned r/\Ext w w'/\zhC ⟨1,a,o,n⟩ r w':=by
 have hmf:=zhE;go_enter Tryz.func164,Tryz.ntmps164
 go_wp2
 go_ret
 refine ⟨_,rfl,((Ext.refl w).alloc _).alloc _,_,_,rfl,enters_put,fun l g wa hx ho hk=>?_⟩;have q1:=hx.cell (p:=⟨w.heap.size,0,none⟩) (v:=I a) (by simp);have q2:=hx.cell (p:=⟨w.heap.size+1,0,none⟩) (v:=I n) (by simp);refine (ztw l g _ _ a n wa ho (by have:=hk.len; omega) q1 (zff q1) q2).mono fun e w' h=>?_;rw [zmg];by_cases ha:at1 l a < l.length
 ·rw [if_pos ha] at h ⊢; exact h
 ·rw [if_neg ha] at h ⊢;by_cases h5:5<=l.length
  ·rw [if_pos h5] at h ⊢; exact h
  ·rw [if_neg h5] at h ⊢; exact h

theorem zeR (c:Cl) (v:Value) (w:World) (hv:zgy c v w) (hno:∀ l,¬ at1 l c.name < l.length->zaO l c=(l,⟨6,0⟩)):Calls Tryz.prog 165 #[I c.name,v] w fun e w'=>∃ r,e=.returned r/\Ext w w'/\zhC c r w':=by
 have hmf:=zhE;obtain ⟨F,caps,rfl,hE,hF⟩:=hv;have HF:Hid _:=hF;have HE:Hid (zb3 F):=hE;clear hF hE;go_enter Tryz.func165,Tryz.ntmps165
 go_wp2
 go_ret
 refine ⟨_,rfl,((Ext.refl w).alloc _).alloc _,_,_,rfl,enters_there,fun l g wa hx ho hk=>?_⟩;have hw:Ext w wa:=(((Ext.refl w).alloc _).alloc _).trans hx;have q1:=hx.cell (p:=⟨w.heap.size,0,none⟩) (v:=I c.name) (by simp);have q2:=hx.cell (p:=⟨w.heap.size+1,0,none⟩) (v:=.func (.func F) #[] caps) (by simp);refine (zpN F caps l g _ _ c.name wa (zaO l c).1 (zaO l c).2 ho q1 (zff q1) q2 HE.o (fun ha wb hb=>HF.o l g wb (hw.trans hb) (zai ho hb) hk ha)).mono fun e w' h=>?_;by_cases ha:at1 l c.name < l.length
 ·rw [if_pos ha] at h; exact h
 ·rw [if_neg ha] at h; rw [hno l ha]; exact h

theorem zqj (a o n:Int) (w:World) (hn:-1073741824<=n/\n<=1073741824):Calls Tryz.prog 168 #[I n] w fun e w'=>∃ r,e=.returned r/\Ext w w'/\zgy ⟨4,a,o,n⟩ r w':=by
 have hmf:=zhE;go_enter Tryz.func168,Tryz.ntmps168
 go_wp2
 go_ret
 refine ⟨_,rfl,(Ext.refl w).alloc _,_,_,rfl,enters_add,fun l g wa hx ho hk ha=>?_⟩;have q1:=hx.cell (p:=⟨w.heap.size,0,none⟩) (v:=I n) (by simp);refine (zs8 l g _ _ n wa ho ha q1 (zff q1) hn (hk.at ha).2.2).mono fun e w' h=>?_;rw [ziL,if_neg (by simpa using ha)];by_cases hs:-1073741824<=num l (at1 l a)+n/\num l (at1 l a)+n<=1073741824
 ·rw [if_pos hs] at h;rw [if_neg (by simpa using hs)]; exact h
 ·rw [if_neg hs] at h;rw [if_pos hs]; exact h

theorem zn6 (a o n:Int) (w:World):Calls Tryz.prog 169 #[I o] w fun e w'=>∃ r,e=.returned r/\Ext w w'/\zgy ⟨6,a,o,n⟩ r w':=by
 have hmf:=zhE;go_enter Tryz.func169,Tryz.ntmps169
 go_wp2
 go_ret
 refine ⟨_,rfl,(Ext.refl w).alloc _,_,_,rfl,enters_swap,fun l g wa hx ho hk ha=>?_⟩;have q1:=hx.cell (p:=⟨w.heap.size,0,none⟩) (v:=I o) (by simp);refine (zr1 l g _ _ o wa ho ha q1 (zff q1)).mono fun e w' h=>?_;rw [zgX,if_neg (by simpa using ha)];by_cases hs:at1 l o < l.length
 ·rw [if_pos hs] at h;rw [if_neg (by simpa using hs)]; exact h
 ·rw [if_neg hs] at h;rw [if_pos hs]; exact h

open Go.RowKit Go.Mk

theorem zoD (k a o n:Int) (w:World) (hc:wrongCl ⟨k,a,o,n⟩=0):Calls Tryz.prog 156 #[.agg #[I k,I a,I o,I n]] w fun e w'=>∃ r,e=.returned r/\Ext w w'/\zhC ⟨k,a,o,n⟩ r w':=by
 obtain ⟨hk,hn⟩:=zhh hc;have HN:Hid (k=1∨k=4->-1073741824<=n/\n<=1073741824):=hn;clear hc hn;have he0:Ext w (w.alloc (.cells #[I k,I a,I o,I n] 33)):=(Ext.refl w).alloc _;rcases hk with rfl | rfl | rfl | rfl | rfl | rfl
 ·go_enter Tryz.func156,Tryz.ntmps156
  go_wp2_with fail
  refine (zqI a o n _).mono ?_;rintro e w1 ⟨r,rfl,he,hd⟩
  go_wp2
  go_ret
  exact ⟨_,rfl,he0.trans he,hd⟩
 ·go_enter Tryz.func156,Tryz.ntmps156
  go_wp2_with fail
  refine (zeR ⟨2,a,o,n⟩ _ _ (zrG a o n _) (fun l ha=>by rw [zmL,if_pos ha])).mono ?_;rintro e w1 ⟨r,rfl,he,hd⟩
  go_wp2
  go_ret
  exact ⟨_,rfl,he0.trans he,hd⟩
 ·go_enter Tryz.func156,Tryz.ntmps156
  go_wp2_with fail
  refine (zeR ⟨3,a,o,n⟩ _ _ (zpU a o n _) (fun l ha=>by rw [zhY,if_pos ha])).mono ?_;rintro e w1 ⟨r,rfl,he,hd⟩
  go_wp2
  go_ret
  exact ⟨_,rfl,he0.trans he,hd⟩
 ·have q1:(w.alloc (.cells #[I 4,I a,I o,I n] 33)).cell? ⟨w.heap.size,1,none⟩=some (I a):=by simp
  have q3:(w.alloc (.cells #[I 4,I a,I o,I n] 33)).cell? ⟨w.heap.size,3,none⟩=some (I n):=by simp
  have HQ1:Hid _:=q1;have HQ3:Hid _:=q3;clear q1 q3;go_enter Tryz.func156,Tryz.ntmps156
  go_wp2_with fail
  refine zbU [none,none,none,none,some (.inr (zgy ⟨4,a,o,n⟩)),some (.inr (zhC ⟨4,a,o,n⟩)),none] (by kernel_rfl) (by kernel_rfl) ?_ ?_
  ·exact ⟨trivial,trivial,trivial,trivial,zmc _,zms _,trivial,trivial⟩
  (refine zat (fun K hK=>?_); go_simp; refine hK _ ?_; clear hK K)
  refine zaK (I a) rfl (fun w' hw'=>by have t1:=hw'.cell HQ1.o; go_simp) ?_;(refine zat (fun K hK=>?_); go_simp; refine hK _ ?_; clear hK K)
  refine zaK (I n) rfl (fun w' hw'=>by have t1:=hw'.cell HQ3.o; go_simp) ?_;refine zbq _ rfl (fun w' hw' _=>?_) (fun v30=>?_)
  ·have hg:=zqj a o n w' (HN.o (by simp));unfold za0;go_simp
   exact ⟨Ext.refl _,hg⟩
  refine zbq _ rfl (fun w' hw' hk=>?_) (fun v31=>?_)
  ·have h7:zgy ⟨4,a,o,n⟩ v30 w':=hk 30 (by decide);have hg:=zeR ⟨4,a,o,n⟩ v30 w' h7 (fun l ha=>by rw [ziL,if_pos ha]);clear hk h7;unfold za0;go_simp
   exact ⟨Ext.refl _,hg⟩
  (refine zat (fun K hK=>?_); go_simp; refine hK _ ?_; clear hK K)
  refine za5 ?_;intro w2 he2 hF;have hd:zhC ⟨4,a,o,n⟩ v31 w2:=hF 31;go_wp2
  go_ret
  exact ⟨_,rfl,he0.trans he2,hd⟩
 ·go_enter Tryz.func156,Tryz.ntmps156
  go_wp2
  go_ret
  exact ⟨_,rfl,he0,znK a o n _⟩
 ·have q1:(w.alloc (.cells #[I 6,I a,I o,I n] 33)).cell? ⟨w.heap.size,1,none⟩=some (I a):=by simp
  have q3:(w.alloc (.cells #[I 6,I a,I o,I n] 33)).cell? ⟨w.heap.size,2,none⟩=some (I o):=by simp
  have HQ1:Hid _:=q1;have HQ3:Hid _:=q3;clear q1 q3;go_enter Tryz.func156,Tryz.ntmps156
  go_wp2_with fail
  refine zbU [none,none,none,none,some (.inr (zgy ⟨6,a,o,n⟩)),some (.inr (zhC ⟨6,a,o,n⟩)),none] (by kernel_rfl) (by kernel_rfl) ?_ ?_
  ·exact ⟨trivial,trivial,trivial,trivial,zmc _,zms _,trivial,trivial⟩
  (refine zat (fun K hK=>?_); go_simp; refine hK _ ?_; clear hK K)
  refine zaK (I a) rfl (fun w' hw'=>by have t1:=hw'.cell HQ1.o; go_simp) ?_;(refine zat (fun K hK=>?_); go_simp; refine hK _ ?_; clear hK K)
  refine zaK (I o) rfl (fun w' hw'=>by have t1:=hw'.cell HQ3.o; go_simp) ?_;refine zbq _ rfl (fun w' hw' _=>?_) (fun v30=>?_)
  ·have hg:=zn6 a o n w';unfold za0;go_simp
   exact ⟨Ext.refl _,hg⟩
  refine zbq _ rfl (fun w' hw' hk=>?_) (fun v31=>?_)
  ·have h7:zgy ⟨6,a,o,n⟩ v30 w':=hk 38 (by decide);have hg:=zeR ⟨6,a,o,n⟩ v30 w' h7 (fun l ha=>by rw [zgX,if_pos ha]);clear hk h7;unfold za0;go_simp
   exact ⟨Ext.refl _,hg⟩
  (refine zat (fun K hK=>?_); go_simp; refine hK _ ?_; clear hK K)
  refine za5 ?_;intro w2 he2 hF;have hd:zhC ⟨6,a,o,n⟩ v31 w2:=hF 39;go_wp2
  go_ret
  exact ⟨_,rfl,he0.trans he2,hd⟩

def zkl (base:Nat) (l:List (Int×Int)) (c:Cl) (r:Value) (w:World):Prop:=∃ u,r=.tuple #[u,(zaO l c).2.val]/\Has base w u (zaO l c).1

theorem zs3 (v:Value) (l:List (Int×Int)) (k a o n:Int) (w:World) (hv:zar w v l) (hl:Okw l) (hc:wrongCl ⟨k,a,o,n⟩=0):Calls Tryz.prog 149 #[v,.agg #[I k,I a,I o,I n]] w fun e w'=>∃ r,e=.returned r/\Ext w w'/\zkl w.heap.size l ⟨k,a,o,n⟩ r w':=by
 have he0:Ext w ((w.alloc (.cells #[I k,I a,I o,I n] 33)).alloc (.cells #[I 0,I 0] 38)):=((Ext.refl w).alloc _).alloc _
 have hbx:((w.alloc (.cells #[I k,I a,I o,I n] 33)).alloc (.cells #[I 0,I 0] 38)).heap[w.heap.size+1]?=some (.cells #[I 0,I 0] 38):=by
  have:=heap_alloc_new (w.alloc (.cells #[I k,I a,I o,I n] 33)) (.cells #[I 0,I 0] 38);simpa using this
 have HBX:Hid _:=hbx;clear hbx;go_enter Tryz.func149,Tryz.ntmps149
 go_wp2_with fail
 refine (zoD k a o n _ hc).mono ?_;rintro e w1 ⟨r,rfl,e1,F,caps,rfl,hE,hF⟩
 have HF:Hid _:=hF;clear hF;unfold zb3 at hE;have hw1:Ext w w1:=he0.trans e1;go_wp2_with fail
 refine (zrK v l w1 (hv.ext hw1) (by have:=hl.len; omega)).mono ?_;rintro e w2 ⟨rfl,ho,e2⟩
 have hs1:w.heap.size+1 < w1.heap.size:=by have:=e1.size; simp at this; omega
 generalize hgs:w1.heap.size=g at *;go_wp2_with fail
 refine (HF.o l g w2 e2 ho hl).mono ?_;rintro e w3 ⟨u,x,m,lo,rfl,hov,hu,hgr⟩
 have hb3:w3.heap[w.heap.size+1]?=some (.cells #[I 0,I 0] 38):=by
  rw [hgr.block (w.heap.size+1) (by have:=e2.size; omega) (fun e=>by have e2:w.heap.size+1=g:=Option.some.inj e; omega),e2.block _ (by omega),e1.block _ (by simp)];exact HBX.o
 obtain ⟨c0,c1,f0,f1⟩:=zbV hb3 (Ext.refl w3);have hw3:Ext w w3:=(hw1.trans e2).grown hgr (fun k hk=>by cases hk; omega);clear hE;generalize hD:zaO l ⟨k,a,o,n⟩=D at *;have HD:Hid (zaO l ⟨k,a,o,n⟩=D):=hD;clear hD;obtain ⟨D1,D2,D3⟩:=D;go_wp2
 try simp only [Exit.inBlock,Exit.then]
 refine bodyPost_ret (by simp [results,Tryz.results149,go_sem,c0,c1]; rfl) rfl ?_;have hne:=zaH hov hb3 (by decide);refine ⟨_,rfl,(hw3.setCell (Nat.le_succ _) _).setCell (Nat.le_succ _) _,u,?_,?_⟩
 ·rw [HD.o]
 ·rw [HD.o]; exact Has.low ⟨x,m,lo,za1 (za1 hov hne _ _) hne _ _,hu⟩ (by omega)

open Go.RowKit Go.Mk

open Go.RowKit Go.Mk

theorem zpk (v:Value) (xs:List Int) (w:World) (hv:zc2 w v xs) (hw:xs.length=11/\0<=xs.getD 0 0/\xs.getD 0 0<=5) :
  Calls Tryz.prog 15 #[v] w fun e w'=>∃ r,e=.returned r/\Ext w w'/\zar w' r (zaX xs (xs.getD 0 0).toNat):=by
 obtain ⟨hl,x0,x5⟩:=id hw;obtain ⟨i0,hi,hz0,hz1,hz2⟩:=info_parts Tryz.infoWrite2;have he:zbH xs=xs.getD 0 0:=by unfold zbH; rw [if_neg (by omega)]; omega
 have H3:Hid (∀ k,k < 11->∃ ao cap,v=.slice ao 11 cap/\11<=cap/\cap<=maxLen/\∃ b off,ao=some ⟨b,off,none⟩/\w.cell? ⟨b,off+k,none⟩=some (I (xs.getD k 0))):=fun k hk=>by
  obtain ⟨ao,cap,h1,h2,h3,h4⟩:=hv.form;rw [hl] at h1 h2 h4;exact ⟨ao,cap,h1,h2,h3,h4 k hk⟩
 obtain ⟨ao,cap,rfl,hcap,hm,b,off,rfl,_⟩:=H3.o 0 (by omega)
 have HC:Hid (∀ k,k < 11->w.cell? ⟨b,off+k,none⟩=some (I (xs.getD k 0))):=fun k hk=>by
  obtain ⟨ao,cap',h1,_,_,b',off',h2,h3⟩:=H3.o k hk;rw [h2] at h1;simp only [Value.slice.injEq,Option.some.injEq,Addr.mk.injEq,and_true] at h1;obtain ⟨⟨rfl,rfl⟩,_,rfl⟩:=h1;exact h3
 clear H3;unfold maxLen at hm;generalize hX:xs.getD 0 0=x at *;clear hX hw hl;go_enter Tryz.func15,Tryz.ntmps15
 go_wp2_with fail
 refine Calls.same (zig _ xs _ hv) ?_;rw [he];clear he hv;go_wp2_with fail
 go_loopw [3,7] (fun o i wr=>∃ k:Nat,(k:Int)<=x/\i=I k/\wr.ownsRow w.heap.size 52 2 o k (zaC (zaX xs k))/\Ext w wr) (fun _ i _=>x.toNat - (intOf i).toNat)
 case atStart=>exact ⟨0,by omega,rfl,World.ownsRow_nil _ _ _ _,Ext.refl w⟩
 case round =>
  obtain ⟨k,hk,rfl,ho,he⟩:=hrel;by_cases hlt:(k:Int) < x
  ·have c1:=he.cell (HC.o (1+2 * k) (by omega));have c2:=he.cell (HC.o (1+2 * k+1) (by omega));have HS:Hid (zaX xs (k+1)=zaX xs k++[(xs.getD (1+2 * k) 0,xs.getD (1+2 * k+1) 0)]):=zl5 xs k;generalize xs.getD (1+2 * k) 0=p at *;generalize xs.getD (1+2 * k+1) 0=q at *;have a1:(0:Int)<=1+2 * (k:Int):=by omega
   have a2:1+2 * (k:Int) < 11:=by omega
   have a3:(1+2 * (k:Int)).toNat=1+2 * k:=by omega
   have a4:(0:Int)<=1+2 * (k:Int)+1:=by omega
   have a5:1+2 * (k:Int)+1 < 11:=by omega
   have a6:(1+2 * (k:Int)+1).toNat=1+2 * k+1:=by omega
   go_wp2_with fail
   refine zap 13 [none,none,none,some (.inl (I (1+2 * (k:Int)))),none,none,none,none,some (.inl (I (1+2 * (k:Int)+1))),none,none,none,some (.inr fun v w=>zar w v [(p,q)])] (by kernel_rfl) (by kernel_rfl) ?_ ?_
   ·exact ⟨trivial,trivial,trivial,trivial,trivial,trivial,trivial,trivial,trivial,trivial,trivial,trivial,zgT _,trivial⟩
   iterate 3 (refine zat (fun K hK=>?_); go_simp; refine hK _ ?_; clear hK K)
   refine zho _ rfl (fun w' hw' _=>?_) ?_
   ·have hg:=zdG (zd5 k w' (by omega) (by omega));unfold za0;go_simp
    exact ⟨Ext.refl _,hg⟩
   (refine zat (fun K hK=>?_); go_simp; refine hK _ ?_; clear hK K)
   refine zaK (I p) rfl (fun w' hw'=>by have:=hw'.cell c1; go_simp) ?_;iterate 2 (refine zat (fun K hK=>?_); go_simp; refine hK _ ?_; clear hK K)
   refine zho _ rfl (fun w' hw' _=>?_) ?_
   ·have hg:=zdG (zgd k w' (by omega) (by omega));unfold za0;go_simp
    exact ⟨Ext.refl _,hg⟩
   (refine zat (fun K hK=>?_); go_simp; refine hK _ ?_; clear hK K)
   refine zaK (I q) rfl (fun w' hw'=>by have:=hw'.cell c2; go_simp) ?_;(refine zat (fun K hK=>?_); go_simp; refine hK _ ?_; clear hK K)
   refine zbq _ rfl (fun w' hw' _=>?_) (fun v22=>?_)
   ·unfold za0;go_simp
    exact ⟨(Ext.refl _).alloc _,zgY _ _ _ 1 rfl rfl (by decide)⟩
   refine za5 ?_;intro w2 he2 hF;have h22:zar w2 v22 [(p,q)]:=hF 22;clear hF c1 c2;refine zaJ _ rfl (.tmp 10) (.tmp 22) 26 rfl w.heap.size 52 i0 _ 2 16 zj2 hi hz0 hz1 hz2 rfl (by decide) u3 k (zaC (zaX xs k)) rfl ?_ v22 rfl 1 _ h22 (zdf _) (by omega) (by decide) ?_ ?_
   ·exact zai ho he2
   ·exact Nat.le_trans he.size he2.size
   intro o' w3 ho3 hg3;have he4:Ext w w3:=(he.trans he2).grown hg3 (fun j hj=>(ho.lt j hj).1);clear hg3 he2 h22;go_wp2
   go_roundw
   case rel =>
    refine ⟨k+1,by omega,by go_num,?_,he4⟩;rw [HS.o,zcy];exact ho3
   case measure=>simp [intOf]; omega
  ·go_wp2
   go_ret
   refine ⟨_,rfl,he,?_⟩;rw [show x.toNat=k by omega];exact zas ho
open Go.RowKit Go.Mk

theorem zmk {w:World} {b:Nat} {t:TypeId} {p q:Value} (h:w.heap[b]?=some (.cells #[p,q] t (0,0))) (u v:Value):((w.setCell ⟨b,0,none⟩ u).setCell ⟨b,1,none⟩ v).heap[b]?=some (.cells #[u,v] t (0,0)):=by
 have h1:=heap_setCell_same _ _ 0 _ _ u h
 have h2:=heap_setCell_same _ _ 1 _ _ v h1
 simpa using h2

theorem zhD {w:World} (l:List (Int×Int)) (cs:Array Value) (n:Nat) (hc:cs.toList=zaC l) (hn:l.length=n) (hm:n<=maxLen) (b:Nat) (hb:b<=w.heap.size):Has b (w.alloc (.cells cs 52)) (.slice (some ⟨w.heap.size,0,none⟩) n n) l:=by
 subst hn
 have:=World.ownsRow_lit (base:=b) (e:=52) (size:=2) w cs l.length hb hm (by rw [<- Array.length_toList,hc,zcd])
 rw [hc] at this
 exact ⟨_,_,l,this,fun w2 h2=>zas h2⟩

theorem ziZ (v:Value) (l:List (Int×Int)) (w:World) (hv:zar w v l) :
  Calls Tryz.prog 160 #[v] w fun e w'=>e=.returned (.agg #[I 0,I (l.length:Int)])/\Ext w w':=by
 obtain ⟨ao,cap,rfl,h1,h2,-⟩:=hv.form;unfold maxLen at h2;clear hv;have c0:(w.alloc (.cells #[I 0,I (l.length:Int)] 52)).cell? ⟨w.heap.size,0,none⟩=some (I 0):=by simp
 have c1:(w.alloc (.cells #[I 0,I (l.length:Int)] 52)).cell? ⟨w.heap.size,1,none⟩=some (I (l.length:Int)):=by simp
 go_enter Tryz.func160,Tryz.ntmps160
 go_wp2
 refine bodyPost_ret (by simp [results,Tryz.results160,go_sem]; rfl) rfl ?_;exact ⟨rfl,(Ext.refl _).alloc _⟩

theorem zqY (v:Value) (l:List (Int×Int)) (i:Nat) (w:World) (hv:zar w v l) (hi:i < l.length) (hl:l.length<=5) :
  Calls Tryz.prog 172 #[v,I i] w fun e w'=>e=.returned (.agg #[I (1+2 * (i:Int)),I (l.getD i (0,0)).1])/\Ext w w':=by
 obtain ⟨ao,cap,rfl,h1,h2,h3⟩:=hv.form;unfold maxLen at h2;obtain ⟨b,off,rfl,c1,c2⟩:=h3 i hi;generalize (l.getD i (0,0)).1=p at *;generalize (l.getD i (0,0)).2=q at *;clear hv h3;have e0:Ext w (w.alloc (.cells #[I 0,I 0] 52)):=(Ext.refl w).alloc _;have HB:Hid ((w.alloc (.cells #[I 0,I 0] 52)).heap[w.heap.size]?=some (.cells #[I 0,I 0] 52 (0,0))):=heap_alloc_new _ _;have d1:=e0.cell c1;clear c1 c2;go_enter Tryz.func172,Tryz.ntmps172
 go_wp2_with fail
 refine zap 8 [none,some (.inl (I (1+2 * (i:Int)))),none,none,none,none,none,none] (by kernel_rfl) (by kernel_rfl) ?_ ?_
 ·exact ⟨trivial,trivial,trivial,trivial,trivial,trivial,trivial,trivial,trivial⟩
 (refine zat (fun K hK=>?_); go_simp; refine hK _ ?_; clear hK K)
 refine zho _ rfl (fun w' hw' _=>?_) ?_
 ·have hg:=zdG (zd5 i w' (by omega) (by omega));unfold za0;go_simp
  exact ⟨Ext.refl _,hg⟩
 iterate 4 (refine zat (fun K hK=>?_); go_simp; refine hK _ ?_; clear hK K)
 refine zaK (I p) rfl (fun w' hw'=>by have:=hw'.cell d1; go_simp) ?_;(refine zat (fun K hK=>?_); go_simp; refine hK _ ?_; clear hK K)
 refine za5 ?_;intro w4 he4 _;have hb4:w4.heap[w.heap.size]?=some (.cells #[I 0,I 0] 52 (0,0)):=by rw [he4.block _ (by simp)]; exact HB.o
 obtain ⟨x0,x1,f0,f1⟩:=zbV hb4 (Ext.refl _);go_wp2
 obtain ⟨z0,z1,-,-⟩:=zbV (zmk hb4 (I (1+2 * (i:Int))) (I p)) (Ext.refl _);clear x0 x1 f0 f1;refine bodyPost_ret (by simp [results,Tryz.results172,go_sem,z0,z1]; rfl) rfl ?_;exact ⟨rfl,((e0.trans he4).setCell (Nat.le_refl _) _).setCell (Nat.le_refl _) _⟩

theorem zex (v:Value) (l:List (Int×Int)) (i:Nat) (w:World) (hv:zar w v l) (hi:i < l.length) (hl:l.length<=5) :
  Calls Tryz.prog 159 #[v,I i] w fun e w'=>e=.returned (.agg #[I (2+2 * (i:Int)),I (l.getD i (0,0)).2])/\Ext w w':=by
 obtain ⟨ao,cap,rfl,h1,h2,h3⟩:=hv.form;unfold maxLen at h2;obtain ⟨b,off,rfl,c1,c2⟩:=h3 i hi;generalize (l.getD i (0,0)).1=p at *;generalize (l.getD i (0,0)).2=q at *;clear hv h3;have e0:Ext w (w.alloc (.cells #[I 0,I 0] 52)):=(Ext.refl w).alloc _;have HB:Hid ((w.alloc (.cells #[I 0,I 0] 52)).heap[w.heap.size]?=some (.cells #[I 0,I 0] 52 (0,0))):=heap_alloc_new _ _;have d1:=e0.cell c2;clear c1 c2;go_enter Tryz.func159,Tryz.ntmps159
 go_wp2_with fail
 refine zap 8 [none,some (.inl (I (1+2 * (i:Int)+1))),none,none,none,none,none,none] (by kernel_rfl) (by kernel_rfl) ?_ ?_
 ·exact ⟨trivial,trivial,trivial,trivial,trivial,trivial,trivial,trivial,trivial⟩
 (refine zat (fun K hK=>?_); go_simp; refine hK _ ?_; clear hK K)
 refine zho _ rfl (fun w' hw' _=>?_) ?_
 ·have hg:=zdG (zgd i w' (by omega) (by omega));unfold za0;go_simp
  exact ⟨Ext.refl _,hg⟩
 iterate 4 (refine zat (fun K hK=>?_); go_simp; refine hK _ ?_; clear hK K)
 refine zaK (I q) rfl (fun w' hw'=>by have:=hw'.cell d1; go_simp) ?_;(refine zat (fun K hK=>?_); go_simp; refine hK _ ?_; clear hK K)
 refine za5 ?_;intro w4 he4 _;have hb4:w4.heap[w.heap.size]?=some (.cells #[I 0,I 0] 52 (0,0)):=by rw [he4.block _ (by simp)]; exact HB.o
 obtain ⟨x0,x1,f0,f1⟩:=zbV hb4 (Ext.refl _);go_wp2
 obtain ⟨z0,z1,-,-⟩:=zbV (zmk hb4 (I (1+2 * (i:Int)+1)) (I q)) (Ext.refl _);clear x0 x1 f0 f1;refine bodyPost_ret (by simp [results,Tryz.results159,go_sem,z0,z1]; rfl) rfl ?_;exact ⟨by rw [show 2+2 * (i:Int)=1+2 * (i:Int)+1 by omega],((e0.trans he4).setCell (Nat.le_refl _) _).setCell (Nat.le_refl _) _⟩

end Go.Proofs.YtdmipnnfoolelagGreatDoor

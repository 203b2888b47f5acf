/- Texts of the proof, merged: M4 M5 M6 M7 M8 W5 M9 P1. -/
import Derived.Test.YtdmipnnfoolelafGreatKTA
import Derived.Test.YtdmipnnfoolelafGreatKT4
import Derived.Test.YtdmipnnfoolelafGreatKTB
import Derived.Test.YtdmipnnfoolelafGreatKTK
import Derived.Test.YtdmipnnfoolelafGreatKTO
import Derived.Test.YtdmipnnfoolelafGreatKTC
set_option maxHeartbeats 1000000
set_option maxRecDepth 100000

namespace Go.Proofs.YtdmipnnfoolelafGreat
open Go.RowKit Go.Mk

def zgL (w:World) (g:Nat) (l:List (Int×Int)) (r:Rp) (e:Ending) (w':World):Prop :=
 ∃ u v n lo,e=.returned (.tuple #[u,.agg #[I r.err,I r.n]])/\w'.ownsRow g 111 2 v n (zaB lo)/\(∀ w2:World,w2.ownsRow g 111 2 v n (zaB lo)->zax w2 u l)/\w.grownBy w' (some g)

abbrev zdH (w:World) (g:Nat) (l:List (Int×Int)):Prop:=w.ownsRow g 111 2 (.slice (some ⟨g,0,none⟩) l.length l.length) l.length (zaB l)

theorem zcT {w w1:World} {g b n:Nat} {u v x y:Value} {l l':List (Int×Int)} {r:Rp} (hb:w.heap.size<=b) (ho:w1.ownsRow g 111 2 v n (zaB l)) (hv:v.ownBlock≠some b) (hg:w.grownBy w1 (some g))
  (hu:∀ w2:World,w2.ownsRow g 111 2 v n (zaB l)->zax w2 u l'):zgL w g l' r (.returned (.tuple #[u,.agg #[I r.err,I r.n]])) ((w1.setCell ⟨b,0,none⟩ x).setCell ⟨b,1,none⟩ y) :=
 ⟨u,v,n,l,rfl,zbs (zbs ho hv _ _) hv _ _,hu,zle (zle hg hb _ _) hb _ _⟩

theorem zma {w:World} {g:Nat} {l:List (Int×Int)} (ho:zdH w g l):(Value.slice (some ⟨g,0,none⟩) l.length l.length).ownBlock≠some w.heap.size:=fun e=>by
 have h:=(ho.lt g rfl).2
 have e2:g=w.heap.size:=by simpa [Value.ownBlock] using e
 rw [e2] at h
 exact Nat.lt_irrefl _ h

theorem zo0 (l:List (Int×Int)) (g:Nat) (w:World) (ho:zdH w g l) :
  Calls Tryz.prog 144 #[.slice (some ⟨g,0,none⟩) l.length l.length] w fun e w'=>zgL w g l ⟨0,l.length⟩ e w':=by
 go_enter Tryz.func144,Tryz.ntmps144
 go_wp2_with fail
 refine Calls.exts (zew _ _ _) (fun w1 e1=>?_);obtain ⟨c0,c1,f0,f1⟩:=zmn e1;go_wp2
 try simp only [Exit.inBlock,Exit.then]
 refine bodyPost_ret (by simp [results,Tryz.results144,go_sem,c0,c1]; rfl) rfl ?_;have he:Ext w w1:=((Ext.refl w).alloc _).trans e1;exact zcT (Nat.le_refl _) (zam ho he) (zma ho) (he.grownBy _) (fun w2 h2=>zaC h2)

theorem zcS {w:World} {g:Nat} {l:List (Int×Int)} (ho:zdH w g l) (i:Nat) (hi:i < l.length):w.cell? ⟨g,i * 2,none⟩=some (I (l.getD i (0,0)).1)/\w.cell? ⟨g,i * 2+1,none⟩=some (I (l.getD i (0,0)).2):=by
 obtain ⟨a,b⟩:=zfN l i hi
 rw [<- ho.cellAt _ (by omega)] at a b
 exact ⟨a,b⟩

theorem zrJ (l:List (Int×Int)) (g i:Nat) (w:World) (ho:zdH w g l) (hi:i < l.length) :
  Calls Tryz.prog 147 #[.slice (some ⟨g,0,none⟩) l.length l.length,I i] w fun e w'=>zgL w g l ⟨0,num l i⟩ e w':=by
 have hc:∀ o,(w.alloc o).cell? ⟨g,i * 2+1,none⟩=some (I (num l i)):=fun o=>(zcS (ho.alloc o) i hi).2;go_enter Tryz.func147,Tryz.ntmps147
 go_wp2_with fail
 refine Calls.exts (zew _ _ _) (fun w1 e1=>?_);obtain ⟨c0,c1,f0,f1⟩:=zmn e1;go_wp2
 try simp only [Exit.inBlock,Exit.then]
 refine bodyPost_ret (by simp [results,Tryz.results147,go_sem,c0,c1]; rfl) rfl ?_;have he:Ext w w1:=((Ext.refl w).alloc _).trans e1;exact zcT (Nat.le_refl _) (zam ho he) (zma ho) (he.grownBy _) (fun w2 h2=>zaC h2)

theorem zqd (l:List (Int×Int)) (g i:Nat) (w:World) (ho:zdH w g l) (hi:i < l.length) (hr:l.length * 16<=140737488355328) :
  Calls Tryz.prog 148 #[.slice (some ⟨g,0,none⟩) l.length l.length,I i] w fun e w'=>zgL w g ((l.set i (l.getD (l.length - 1) (0,0))).take (l.length - 1)) ⟨0,num l i⟩ e w':=by
 have hg:g < w.heap.size:=(ho.lt g rfl).2;obtain ⟨hc1,hc2⟩:=zcS ho i hi;obtain ⟨hc3,hc4⟩:=zcS ho (l.length - 1) (by omega);have hf1:w.frozen? ⟨g,i * 2,none⟩=false:=ho.frozenAt _;have hf2:w.frozen? ⟨g,i * 2+1,none⟩=false:=ho.frozenAt _;have HN:Hid (num l i=(l.getD i (0,0)).2):=rfl;generalize hL:l.length - 1=L at *;have hLi:(l.length:Int) - 1=(L:Int):=by omega
 have hLl:(L:Int) < (l.length:Int):=by omega
 have hLt:(L:Int).toNat=L:=by omega
 have HL:Hid (l.length - 1=L):=hL;clear hL;generalize hQ:l.getD L (0,0)=q at *;have HQ:Hid (l.getD L (0,0)=q):=hQ;clear hQ;generalize hP:l.getD i (0,0)=p at *;obtain ⟨p1,p2⟩:=p;obtain ⟨q1,q2⟩:=q;simp only [] at hc1 hc2 hc3 hc4;rw [HN.o];clear hP HN;go_enter Tryz.func148,Tryz.ntmps148
 go_wp2_with fail
 refine Calls.exts (zew _ _ _) (fun w1 e1=>?_);obtain ⟨c0,c1,f0,f1⟩:=zsA w.heap.size e1 (by simp);have s1:=ho.stored (i * 2) (I q1);have s2:=s1.1.stored (i * 2+1) (I q2);have ho':=zam s2.1 (((Ext.refl _).alloc _).trans e1);have hg':=za3 (za3 s1.2 s2.2) ((((Ext.refl _).alloc _).trans e1).grownBy _);clear s1 s2 hc1 hc2 hc3 hc4 hf1 hf2 e1;go_wp2
 try simp only [Exit.inBlock,Exit.then]
 refine bodyPost_ret (by simp [results,Tryz.results148,go_sem,c0,c1]; rfl) rfl ?_;have hlen:(l.set i (q1,q2)).length=l.length:=by simp
 rw [show ((zaB l).set (i * 2) (I q1)).set (i * 2+1) (I q2)=zaB (l.set i (q1,q2)) from (zgb l i (q1,q2)).symm,<- hlen] at ho';exact zcT (Nat.le_refl _) ho' (by rw [hlen]; exact zma ho) hg' (fun w2 h2=>by have:=(zaC h2).take L (by rw [hlen]; omega); rwa [hlen] at this)

theorem zf7 {w:World} {g:Nat} {l:List (Int×Int)} (ho:zdH w g l) (i:Nat) (hi:i < l.length) (n:Int):zdH (w.setCell ⟨g,i * 2+1,none⟩ (I n)) g (zc2 l i n):=by
 have h:=(ho.stored (i * 2+1) (I n)).1
 unfold zdH
 rw [za5]
 have e:(zaB l).set (i * 2+1) (I n)=zaB (zc2 l i n):=by
  unfold zc2
  rw [zgb]
  congr 1
  simp only []
  have h1:=(zfN l i hi).1
  obtain ⟨hlt,h2⟩:=List.getElem?_eq_some_iff.1 h1
  rw [<- h2,List.set_getElem_self]
 rw [<- e]
 exact h

theorem zeL {w:World} {g:Nat} {l:List (Int×Int)} (ho:zdH w g l) {n m:Nat}:(Value.slice (some ⟨g,0,none⟩) n m).ownBlock≠some w.heap.size:=zma ho

theorem zrv (l:List (Int×Int)) (g i b:Nat) (n:Int) (w:World) (ho:zdH w g l) (hi:i < l.length) (hb:w.cell? ⟨b,0,none⟩=some (I n)) (hbl:b < w.heap.size)
  (hn:-1073741824<=n/\n<=1073741824) (hm:-1073741824<=num l i/\num l i<=1073741824) :
  Calls Tryz.prog 158 #[.slice (some ⟨g,0,none⟩) l.length l.length,I i,.pointer (some ⟨b,0,none⟩)] w fun e w' =>
   if -1073741824<=num l i+n/\num l i+n<=1073741824 then zgL w g (zc2 l i (num l i+n)) ⟨0,num l i+n⟩ e w' else zgL w g l ⟨3,0⟩ e w':=by
 have hg:g < w.heap.size:=(ho.lt g rfl).2;obtain ⟨hc1,hc2⟩:=zcS ho i hi;replace hc2:w.cell? ⟨g,i * 2+1,none⟩=some (I (num l i)):=hc2;clear hc1;have hf2:w.frozen? ⟨g,i * 2+1,none⟩=false:=ho.frozenAt _;have HO:Hid (∀ wx m,Ext w wx->zdH (wx.setCell ⟨g,i * 2+1,none⟩ (I m)) g (zc2 l i m)):=fun wx m hx=>zf7 (zam ho hx) i hi m;generalize num l i=m at *;obtain ⟨n1,n2⟩:=hn;obtain ⟨m1,m2⟩:=hm;by_cases hs:-1073741824<=m+n/\m+n<=1073741824
 ·simp only [hs,and_self,if_true];obtain ⟨s1,s2⟩:=hs;go_enter Tryz.func158,Tryz.ntmps158
  go_wp2_with fail
  go_quiet (fail)
  go_wp2_with (go_at_call 81; refine Calls.same (zds _ _ _ _) ?_)
  refine Calls.exts (zew _ _ _) (fun w1 e1=>?_);obtain ⟨c0,c1,f0,f1⟩:=zaL (zl4 hg) e1;have ho':=zam (HO.o _ _ (((Ext.refl w).alloc _).drewN _)) e1;have hg':=za3 (za3 ((((Ext.refl w).alloc _).drewN nq).grownBy (some g)) (zdP _ g (i * 2+1) (I (m+n)))) (e1.grownBy _);go_wp2
  try simp only [Exit.inBlock,Exit.then]
  refine bodyPost_ret (by simp [results,Tryz.results158,go_sem,c0,c1]; rfl) rfl ?_;exact zcT (Nat.le_refl _) ho' (zeL ho) hg' (fun w2 h2=>by have:=zaC h2; rwa [za5] at this)
 ·simp only [hs,if_false];have hs2:m+n < -1073741824∨1073741824 < m+n:=by omega
  clear hs;rcases hs2 with hs2 | hs2
  ·have d1:decide (-1073741824<=m+n)=false:=by simp; omega
   go_enter Tryz.func158,Tryz.ntmps158
   go_wp2_with fail
   go_quiet (fail)
   go_wp2_with (go_at_call 81; refine Calls.same (zds _ _ _ _) ?_)
   refine Calls.exts (ze1 _ _ _) (fun w1 e1=>?_);obtain ⟨c0,c1,f0,f1⟩:=zaL (zhx w _ _) e1;have he:Ext w w1:=(((Ext.refl w).alloc _).drewN _).trans e1;go_wp2
   try simp only [Exit.inBlock,Exit.then]
   refine bodyPost_ret (by simp [results,Tryz.results158,go_sem,c0,c1]; rfl) rfl ?_;exact zcT (Nat.le_refl _) (zam ho he) (zeL ho) (he.grownBy _) (fun w2 h2=>zaC h2)
  ·have d1:decide (m+n<=1073741824)=false:=by simp; omega
   go_enter Tryz.func158,Tryz.ntmps158
   go_wp2_with fail
   go_quiet (fail)
   go_wp2_with (go_at_call 81; refine Calls.same (zds _ _ _ _) ?_)
   refine Calls.exts (ze1 _ _ _) (fun w1 e1=>?_);obtain ⟨c0,c1,f0,f1⟩:=zaL (zhx w _ _) e1;have he:Ext w w1:=(((Ext.refl w).alloc _).drewN _).trans e1;go_wp2
   try simp only [Exit.inBlock,Exit.then]
   refine bodyPost_ret (by simp [results,Tryz.results158,go_sem,c0,c1]; rfl) rfl ?_;exact zcT (Nat.le_refl _) (zam ho he) (zeL ho) (he.grownBy _) (fun w2 h2=>zaC h2)

open Go.RowKit Go.Mk

theorem zq8 (l:List (Int×Int)) (g i b:Nat) (name:Int) (w:World) (ho:zdH w g l) (hi:i < l.length) (hb:w.cell? ⟨b,0,none⟩=some (I name)) (hbl:b < w.heap.size) :
  Calls Tryz.prog 159 #[.slice (some ⟨g,0,none⟩) l.length l.length,I i,.pointer (some ⟨b,0,none⟩)] w fun e w' =>
   if at1 l name < l.length then zgL w g (zc2 (zc2 l i (num l (at1 l name))) (at1 l name) (num l i)) ⟨0,num l (at1 l name)⟩ e w' else zgL w g l ⟨6,0⟩ e w':=by
 have hg:g < w.heap.size:=(ho.lt g rfl).2;by_cases ha:at1 l name < l.length
 case neg =>
  simp only [ha,if_false];have hf:ze4 l name=-1:=by unfold ze4; rw [if_neg ha]
  go_enter Tryz.func159,Tryz.ntmps159
  go_wp2_with fail
  refine Calls.exts (ze9 _ l name _ (zaC (ho.alloc _))) (fun wa ea=>?_);rw [hf];go_wp2_with fail
  refine Calls.exts (ze1 _ _ _) (fun w1 e1=>?_);obtain ⟨c0,c1,f0,f1⟩:=zaL (heap_alloc_new w _) (ea.trans e1);have he:Ext w w1:=(((Ext.refl w).alloc _).trans ea).trans e1;go_wp2
  try simp only [Exit.inBlock,Exit.then]
  refine bodyPost_ret (by simp [results,Tryz.results159,go_sem,c0,c1]; rfl) rfl ?_;exact zcT (Nat.le_refl _) (zam ho he) (zeL ho) (he.grownBy _) (fun w2 h2=>zaC h2)
 simp only [ha,if_true];have hf:ze4 l name=(at1 l name:Int):=by unfold ze4; rw [if_pos ha]
 generalize hA:at1 l name=A at *;have HS:Hid (∀ wx,Ext w wx->zdH wx g l):=fun wx hx=>zam ho hx;go_enter Tryz.func159,Tryz.ntmps159
 go_wp2_with fail
 refine Calls.exts (ze9 _ l name _ (zaC (ho.alloc _))) (fun wa ea=>?_);rw [hf];have hoa:zdH wa g l:=HS.o wa (((Ext.refl w).alloc _).trans ea);obtain ⟨k1,k2⟩:=zcS hoa i hi;obtain ⟨k3,k4⟩:=zcS hoa A ha;have f2:wa.frozen? ⟨g,i * 2+1,none⟩=false:=hoa.frozenAt _;have f4:wa.frozen? ⟨g,A * 2+1,none⟩=false:=hoa.frozenAt _;replace k2:wa.cell? ⟨g,i * 2+1,none⟩=some (I (num l i)):=k2;replace k4:wa.cell? ⟨g,A * 2+1,none⟩=some (I (num l A)):=k4;clear k1 k3
 have HW:Hid (∀ x y:Int,zdH (((wa.setCell ⟨g,i * 2+1,none⟩ (I x)).setCell ⟨g,A * 2+1,none⟩ (I y)).drew) g (zc2 (zc2 l i x) A y)):=fun x y =>
  zam (zf7 (zf7 hoa i hi x) A (by rw [za5]; exact ha) y) (Ext.refl _).drew
 have HG:Hid (∀ x y:Value,wa.grownBy (((wa.setCell ⟨g,i * 2+1,none⟩ x).setCell ⟨g,A * 2+1,none⟩ y).drew) (some g)):=fun x y =>
  zkl (za3 (zdP _ _ _ _) (zdP _ _ _ _))
 have HB:Hid (∀ x y:Value,(((wa.setCell ⟨g,i * 2+1,none⟩ x).setCell ⟨g,A * 2+1,none⟩ y).drew).heap[w.heap.size]?=some (.cells #[I 0,I 0] 39)):=fun x y=>by
  show ((wa.setCell ⟨g,i * 2+1,none⟩ x).setCell ⟨g,A * 2+1,none⟩ y).heap[w.heap.size]?=_
  rw [Below.heap_setCell _ _ _ _ (fun e=>by simp only [] at e; omega),Below.heap_setCell _ _ _ _ (fun e=>by simp only [] at e; omega)];exact zbo ea
 have HN:Hid (num (zc2 (zc2 l i (num l A)) A (num l i)) i=num l A):=by
  unfold Hid;rw [zmV _ _ _ _ (by rw [za5]; exact ha),zmV _ _ _ _ hi,if_pos rfl];by_cases e:A=i
  ·rw [if_pos e,e]
  ·rw [if_neg e]
 generalize hm:num l i=m at *;have HM:Hid (num l i=m):=hm;clear hm;generalize hn:num l A=n at *;have HNA:Hid (num l A=n):=hn;clear hn;have hgw:w.grownBy wa (some g):=(((Ext.refl w).alloc _).trans ea).grownBy _;by_cases hiA:i=A
 ·subst hiA
  have hmn:n=m:=by
   have:=k2.symm.trans k4;simpa using this.symm
  subst hmn;go_wp2_with fail
  go_region
  have hob:=HW.o n n;have hgb:=HG.o (I n) (I n);have hbb:=HB.o (I n) (I n);have kb:=(zcS hob i (by rw [za5,za5]; exact hi)).2;generalize ((wa.setCell ⟨g,i * 2+1,none⟩ (I n)).setCell ⟨g,i * 2+1,none⟩ (I n)).drew=wb at *;replace kb:wb.cell? ⟨g,i * 2+1,none⟩=some (I n):=by rw [kb]; exact congrArg (some ∘ I) HN.o
  clear k2 k4 f2 f4;go_wp2_with fail
  refine Calls.exts (zew _ _ _) (fun w1 e1=>?_);obtain ⟨c0,c1,f0,f1⟩:=zaL hbb e1;go_wp2
  try simp only [Exit.inBlock,Exit.then]
  refine bodyPost_ret (by simp [results,Tryz.results159,go_sem,c0,c1]; rfl) rfl ?_;rw [HNA.o];exact zcT (r:=⟨0,n⟩) (Nat.le_refl _) (zam hob e1) (zeL ho) (za3 (za3 hgw hgb) (e1.grownBy _)) (fun w2 h2=>by have:=zaC h2; rwa [za5,za5] at this)
 ·have d1:¬ (i * 2+1=A * 2+1):=by omega
  have d2:¬ (A * 2+1=i * 2+1):=by omega
  go_wp2_with fail
  go_region
  have hob:=HW.o n m;have hgb:=HG.o (I n) (I m);have hbb:=HB.o (I n) (I m);have kb:=(zcS hob i (by rw [za5,za5]; exact hi)).2;generalize ((wa.setCell ⟨g,i * 2+1,none⟩ (I n)).setCell ⟨g,A * 2+1,none⟩ (I m)).drew=wb at *;replace kb:wb.cell? ⟨g,i * 2+1,none⟩=some (I n):=by rw [kb]; exact congrArg (some ∘ I) HN.o
  clear k2 k4 f2 f4;go_wp2_with fail
  refine Calls.exts (zew _ _ _) (fun w1 e1=>?_);obtain ⟨c0,c1,f0,f1⟩:=zaL hbb e1;go_wp2
  try simp only [Exit.inBlock,Exit.then]
  refine bodyPost_ret (by simp [results,Tryz.results159,go_sem,c0,c1]; rfl) rfl ?_;rw [HNA.o,HM.o];exact zcT (r:=⟨0,n⟩) (Nat.le_refl _) (zam hob e1) (zeL ho) (za3 (za3 hgw hgb) (e1.grownBy _)) (fun w2 h2=>by have:=zaC h2; rwa [za5,za5] at this)

theorem zrC (l:List (Int×Int)) (g b1 b2:Nat) (name n:Int) (w:World) (ho:zdH w g l) (hr:(l.length+1) * 16<=140737488355328) (h1:w.cell? ⟨b1,0,none⟩=some (I name)) (hb1:b1 < w.heap.size) (h2:w.cell? ⟨b2,0,none⟩=some (I n)) :
  Calls Tryz.prog 155 #[.slice (some ⟨g,0,none⟩) l.length l.length,.pointer (some ⟨b1,0,none⟩),.pointer (some ⟨b2,0,none⟩)] w fun e w' =>
   if at1 l name < l.length then zgL w g (zc2 l (at1 l name) n) ⟨0,num l (at1 l name)⟩ e w' else if 5<=l.length then zgL w g l ⟨9,0⟩ e w' else zgL w g (l++[(name,n)]) ⟨0,0⟩ e w':=by
 have hg:g < w.heap.size:=(ho.lt g rfl).2;obtain ⟨i0,hi0,hz0,hz1,hz2⟩:=info_parts Tryz.infoWrite2;by_cases ha:at1 l name < l.length
 ·simp only [ha,if_true];have hf:ze4 l name=(at1 l name:Int):=by unfold ze4; rw [if_pos ha]
  generalize hA:at1 l name=A at *;have HS:Hid (∀ wx,Ext w wx->zdH wx g l):=fun wx hx=>zam ho hx;go_enter Tryz.func155,Tryz.ntmps155
  go_wp2_with fail
  refine Calls.exts (ze9 _ l name _ (zaC (ho.alloc _))) (fun wa ea=>?_);rw [hf];have hea:Ext w wa:=((Ext.refl w).alloc _).trans ea;have hoa:zdH wa g l:=HS.o wa hea;obtain ⟨_,k2⟩:=zcS hoa A ha;have f2:wa.frozen? ⟨g,A * 2+1,none⟩=false:=hoa.frozenAt _;replace k2:wa.cell? ⟨g,A * 2+1,none⟩=some (I (num l A)):=k2;have g2:=hea.cell h2;have hob:=zf7 hoa A ha n;have hgb:w.grownBy _ (some g):=za3 (hea.grownBy (some g)) (zdP wa g (A * 2+1) (I n))
  have hbb:(wa.setCell ⟨g,A * 2+1,none⟩ (I n)).heap[w.heap.size]?=some (.cells #[I 0,I 0] 39):=by
   rw [Below.heap_setCell _ _ _ _ (fun e=>by simp only [] at e; omega)];exact zbo ea
  go_wp2_with fail
  refine Calls.exts (zew _ _ _) (fun w1 e1=>?_);obtain ⟨c0,c1,f0,f1⟩:=zaL hbb e1;go_wp2
  try simp only [Exit.inBlock,Exit.then]
  refine bodyPost_ret (by simp [results,Tryz.results155,go_sem,c0,c1]; rfl) rfl ?_;exact zcT (Nat.le_refl _) (zam hob e1) (zeL ho) (za3 hgb (e1.grownBy _)) (fun w2 h2=>by have:=zaC h2; rwa [za5] at this)
 simp only [ha,if_false];have hf:ze4 l name=-1:=by unfold ze4; rw [if_neg ha]
 by_cases h5:5<=l.length
 ·simp only [h5,if_true];have h5':(5:Int)<=(l.length:Int):=by omega
  go_enter Tryz.func155,Tryz.ntmps155
  go_wp2_with fail
  refine Calls.exts (ze9 _ l name _ (zaC (ho.alloc _))) (fun wa ea=>?_);rw [hf];go_wp2_with fail
  refine Calls.exts (ze1 _ _ _) (fun w1 e1=>?_);obtain ⟨c0,c1,f0,f1⟩:=zaL (heap_alloc_new w _) (ea.trans e1);have he:Ext w w1:=(((Ext.refl w).alloc _).trans ea).trans e1;go_wp2
  try simp only [Exit.inBlock,Exit.then]
  refine bodyPost_ret (by simp [results,Tryz.results155,go_sem,c0,c1]; rfl) rfl ?_;exact zcT (Nat.le_refl _) (zam ho he) (zeL ho) (he.grownBy _) (fun w2 h2=>zaC h2)
 ·simp only [h5,if_false];have h5':(l.length:Int) < 5:=by omega
  go_enter Tryz.func155,Tryz.ntmps155
  go_wp2_with fail
  refine Calls.exts (ze9 _ l name _ (zaC (ho.alloc _))) (fun wa ea=>?_);rw [hf];have hea:Ext w wa:=((Ext.refl w).alloc _).trans ea;have g1:=hea.cell h1;have g2:=hea.cell h2;have hoa:zdH wa g l:=zam ho hea;have hba:=zbo ea;have hsa:g<=wa.heap.size:=Nat.le_trans (Nat.le_of_lt hg) hea.size;have hbs:w.heap.size < wa.heap.size:=(Array.getElem?_eq_some_iff.1 hba).1;go_wp2_with (at_builtin; refine zaA _ rfl _ _ 27 rfl g 111 i0 (.agg #[.int .i64 0,.int .i64 0]) 2 16 zfG hi0 hz0 hz1 hz2 rfl (by decide) _ _ _ rfl (hoa.alloc _) _ rfl 1 [I name,I n] (zcY (l:=[(name,n)]) _ _ 1 rfl rfl (by decide)) (zbK [(name,n)]) (by omega) (by decide) (by simp; omega) ?_; intro v' w3 ho3 hg3)
  have hb3:w3.heap[w.heap.size]?=some (.cells #[I 0,I 0] 39):=by
   have hg4:(wa.alloc (.cells #[I name,I n] 111)).grownBy w3 (some g):=hg3;rw [hg4.block w.heap.size (by simp; omega) (fun e=>by have e2:w.heap.size=g:=Option.some.inj e; omega),heap_alloc_old _ _ hbs];exact hba
  have hgw:w.grownBy w3 (some g):=za3 ((hea.alloc _).grownBy _) hg3;refine Calls.exts (zew _ _ _) (fun w1 e1=>?_);obtain ⟨c0,c1,f0,f1⟩:=zaL hb3 e1;go_wp2
  try simp only [Exit.inBlock,Exit.then]
  refine bodyPost_ret (by simp [results,Tryz.results155,go_sem,c0,c1]; rfl) rfl ?_;rw [show zaB l++[I name,I n]=zaB (l++[(name,n)]) from (zbl l [(name,n)]).symm] at ho3;exact zcT (Nat.le_refl _) (zam ho3 e1) (zbc ho3 hb3 (by decide)) (za3 hgw (e1.grownBy _)) (fun w2 h2=>zaC h2)

open Go.RowKit Go.Mk

def zcO (F:FuncId):Prop:=∀ (args:Array Value) (w:World),(callFunc F args).run Tryz.prog w=.ok (.enter F args) w
theorem enters_get:zcO 147:=fun _ _=>by kernel_rfl
theorem enters_drop:zcO 148:=fun _ _=>by kernel_rfl
theorem enters_add:zcO 158:=fun _ _=>by kernel_rfl
theorem enters_swap:zcO 159:=fun _ _=>by kernel_rfl
theorem enters_there:zcO 157:=fun _ _=>by kernel_rfl
theorem enters_put:zcO 155:=fun _ _=>by kernel_rfl
theorem enters_count:zcO 144:=fun _ _=>by kernel_rfl
theorem zpV (F:FuncId) (caps:Array Value) (l:List (Int×Int)) (g b1 b2:Nat) (name:Int) (w:World) (l':List (Int×Int)) (r:Rp) (ho:zdH w g l) (h1:w.cell? ⟨b1,0,none⟩=some (I name)) (hb1:b1 < w.heap.size)
  (h2:w.cell? ⟨b2,0,none⟩=some (.func (.func F) #[] caps))
  (hE:zcO F) (hF:at1 l name < l.length->∀ wa,Ext w wa->Calls Tryz.prog F (#[.slice (some ⟨g,0,none⟩) l.length l.length,I (at1 l name)]++caps) wa fun e w'=>zgL wa g l' r e w') :
  Calls Tryz.prog 157 #[.slice (some ⟨g,0,none⟩) l.length l.length,.pointer (some ⟨b1,0,none⟩),.pointer (some ⟨b2,0,none⟩)] w fun e w' =>
   if at1 l name < l.length then zgL w g l' r e w' else zgL w g l ⟨6,0⟩ e w':=by
 have hg:g < w.heap.size:=(ho.lt g rfl).2;by_cases ha:at1 l name < l.length
 case neg =>
  simp only [ha,if_false];have hf:ze4 l name=-1:=by unfold ze4; rw [if_neg ha]
  clear hF;go_enter Tryz.func157,Tryz.ntmps157
  go_wp2_with fail
  refine Calls.exts (ze9 _ l name _ (zaC (ho.alloc _))) (fun wa ea=>?_);rw [hf];go_wp2_with fail
  refine Calls.exts (ze1 _ _ _) (fun w1 e1=>?_);obtain ⟨c0,c1,f0,f1⟩:=zaL (heap_alloc_new w _) (ea.trans e1);have he:Ext w w1:=(((Ext.refl w).alloc _).trans ea).trans e1;go_wp2
  try simp only [Exit.inBlock,Exit.then]
  refine bodyPost_ret (by simp [results,Tryz.results157,go_sem,c0,c1]; rfl) rfl ?_;exact zcT (Nat.le_refl _) (zam ho he) (zeL ho) (he.grownBy _) (fun w2 h2=>zaC h2)
 simp only [ha,if_true];have hf:ze4 l name=(at1 l name:Int):=by unfold ze4; rw [if_pos ha]
 have HF:Hid (∀ wa,Ext w wa->Calls Tryz.prog F (#[.slice (some ⟨g,0,none⟩) l.length l.length,I (at1 l name)]++caps) wa fun e w'=>zgL wa g l' r e w'):=hF ha;clear hF;generalize hA:at1 l name=A at *;go_enter Tryz.func157,Tryz.ntmps157
 go_wp2_with fail
 refine Calls.exts (ze9 _ l name _ (zaC (ho.alloc _))) (fun wa ea=>?_);rw [hf];have hea:Ext w wa:=((Ext.refl w).alloc _).trans ea;have g2:=hea.cell h2;have hE2:=hE;unfold zcO at hE2;go_wp2_with fail
 refine (HF.o wa hea).mono ?_;rintro e w1 ⟨u,v,n,lo,rfl,hov,hu,hgr⟩
 have hb1:w1.heap[w.heap.size]?=some (.cells #[I 0,I 0] 39):=by
  rw [hgr.block w.heap.size (Array.getElem?_eq_some_iff.1 (zbo ea)).1 (fun e=>by have e2:w.heap.size=g:=Option.some.inj e; omega)];exact zbo ea
 obtain ⟨c0,c1,f0,f1⟩:=zaL hb1 (Ext.refl w1);clear hE2;go_wp2
 try simp only [Exit.inBlock,Exit.then]
 refine bodyPost_ret (by simp [results,Tryz.results157,go_sem,c0,c1]; rfl) rfl ?_;exact zcT (Nat.le_refl _) hov (zbc hov hb1 (by decide)) (za3 (hea.grownBy _) hgr) hu

open Go.RowKit Go.Mk

def zie (c:Cl) (v:Value) (w:World):Prop:=∃ F caps,v=.func (.func F) #[] caps/\zcO F/\∀ l g wa,Ext w wa->zdH wa g l->Okw l->Calls Tryz.prog F (#[.slice (some ⟨g,0,none⟩) l.length l.length]++caps) wa fun e w'=>zgL wa g (zbw l c).1 (zbw l c).2 e w'

def zhB (c:Cl) (v:Value) (w:World):Prop:=∃ F caps,v=.func (.func F) #[] caps/\zcO F/\∀ l g wa,Ext w wa->zdH wa g l->Okw l->at1 l c.name < l.length->Calls Tryz.prog F (#[.slice (some ⟨g,0,none⟩) l.length l.length,I (at1 l c.name)]++caps) wa fun e w'=>zgL wa g (zbw l c).1 (zbw l c).2 e w'

theorem znf (c:Cl):∀ v,zcJ (zie c v):=fun _ _ _ he ⟨F,caps,h1,h2,h3⟩=>⟨F,caps,h1,h2,fun l g wa hx=>h3 l g wa (he.trans hx)⟩

theorem zm7 (c:Cl):∀ v,zcJ (zhB c v):=fun _ _ _ he ⟨F,caps,h1,h2,h3⟩=>⟨F,caps,h1,h2,fun l g wa hx=>h3 l g wa (he.trans hx)⟩

theorem zrq (a o n:Int) (w:World):zhB ⟨2,a,o,n⟩ (.func (.func 147) #[] #[]) w :=
 ⟨_,_,rfl,enters_get,fun l g wa _ ho _ ha=>(zrJ l g _ wa ho ha).mono fun e w' h=>by rw [zjE,if_neg (by simpa using ha)]; exact h⟩

theorem zph (a o n:Int) (w:World):zhB ⟨3,a,o,n⟩ (.func (.func 148) #[] #[]) w :=
 ⟨_,_,rfl,enters_drop,fun l g wa _ ho hk ha=>(zqd l g _ wa ho ha (by have:=hk.len; omega)).mono fun e w' h=>by rw [zg9,if_neg (by simpa using ha)]; exact h⟩

theorem znQ (a o n:Int) (w:World):zie ⟨5,a,o,n⟩ (.func (.func 144) #[] #[]) w :=
 ⟨_,_,rfl,enters_count,fun l g wa _ ho _=>zo0 l g wa ho⟩

theorem zpC (a o n:Int) (w:World):Calls Tryz.prog 145 #[I a,I n] w fun e w'=>∃ r,e=.returned r/\Ext w w'/\zie ⟨1,a,o,n⟩ r w':=by
 have hmf:=zdT;go_enter Tryz.func145,Tryz.ntmps145
 go_wp2
 go_ret
 refine ⟨_,rfl,((Ext.refl w).alloc _).alloc _,_,_,rfl,enters_put,fun l g wa hx ho hk=>?_⟩;have q1:=hx.cell (p:=⟨w.heap.size,0,none⟩) (v:=I a) (by simp);have q2:=hx.cell (p:=⟨w.heap.size+1,0,none⟩) (v:=I n) (by simp);refine (zrC l g _ _ a n wa ho (by have:=hk.len; omega) q1 (zdW q1) q2).mono fun e w' h=>?_;rw [zkp];by_cases ha:at1 l a < l.length
 ·rw [if_pos ha] at h ⊢; exact h
 ·rw [if_neg ha] at h ⊢;by_cases h5:5<=l.length
  ·rw [if_pos h5] at h ⊢; exact h
  ·rw [if_neg h5] at h ⊢; exact h

theorem zfh (c:Cl) (v:Value) (w:World) (hv:zhB c v w) (hno:∀ l,¬ at1 l c.name < l.length->zbw l c=(l,⟨6,0⟩)):Calls Tryz.prog 146 #[I c.name,v] w fun e w'=>∃ r,e=.returned r/\Ext w w'/\zie c r w':=by
 have hmf:=zdT;obtain ⟨F,caps,rfl,hE,hF⟩:=hv;have HF:Hid _:=hF;have HE:Hid (zcO F):=hE;clear hF hE;go_enter Tryz.func146,Tryz.ntmps146
 go_wp2
 go_ret
 refine ⟨_,rfl,((Ext.refl w).alloc _).alloc _,_,_,rfl,enters_there,fun l g wa hx ho hk=>?_⟩;have hw:Ext w wa:=(((Ext.refl w).alloc _).alloc _).trans hx;have q1:=hx.cell (p:=⟨w.heap.size,0,none⟩) (v:=I c.name) (by simp);have q2:=hx.cell (p:=⟨w.heap.size+1,0,none⟩) (v:=.func (.func F) #[] caps) (by simp);refine (zpV F caps l g _ _ c.name wa (zbw l c).1 (zbw l c).2 ho q1 (zdW q1) q2 HE.o (fun ha wb hb=>HF.o l g wb (hw.trans hb) (zam ho hb) hk ha)).mono fun e w' h=>?_;by_cases ha:at1 l c.name < l.length
 ·rw [if_pos ha] at h; exact h
 ·rw [if_neg ha] at h; rw [hno l ha]; exact h

theorem zpj (a o n:Int) (w:World) (hn:-1073741824<=n/\n<=1073741824):Calls Tryz.prog 149 #[I n] w fun e w'=>∃ r,e=.returned r/\Ext w w'/\zhB ⟨4,a,o,n⟩ r w':=by
 have hmf:=zdT;go_enter Tryz.func149,Tryz.ntmps149
 go_wp2
 go_ret
 refine ⟨_,rfl,(Ext.refl w).alloc _,_,_,rfl,enters_add,fun l g wa hx ho hk ha=>?_⟩;have q1:=hx.cell (p:=⟨w.heap.size,0,none⟩) (v:=I n) (by simp);refine (zrv l g _ _ n wa ho ha q1 (zdW q1) hn (hk.at ha).2.2).mono fun e w' h=>?_;rw [zh1,if_neg (by simpa using ha)];by_cases hs:-1073741824<=num l (at1 l a)+n/\num l (at1 l a)+n<=1073741824
 ·rw [if_pos hs] at h;rw [if_neg (by simpa using hs)]; exact h
 ·rw [if_neg hs] at h;rw [if_pos hs]; exact h

theorem zoi (a o n:Int) (w:World):Calls Tryz.prog 150 #[I o] w fun e w'=>∃ r,e=.returned r/\Ext w w'/\zhB ⟨6,a,o,n⟩ r w':=by
 have hmf:=zdT;go_enter Tryz.func150,Tryz.ntmps150
 go_wp2
 go_ret
 refine ⟨_,rfl,(Ext.refl w).alloc _,_,_,rfl,enters_swap,fun l g wa hx ho hk ha=>?_⟩;have q1:=hx.cell (p:=⟨w.heap.size,0,none⟩) (v:=I o) (by simp);refine (zq8 l g _ _ o wa ho ha q1 (zdW q1)).mono fun e w' h=>?_;rw [zgc,if_neg (by simpa using ha)];by_cases hs:at1 l o < l.length
 ·rw [if_pos hs] at h;rw [if_neg (by simpa using hs)]; exact h
 ·rw [if_neg hs] at h;rw [if_pos hs]; exact h

open Go.RowKit Go.Mk

theorem zn8 (k a o n:Int) (w:World) (hc:wrongCl ⟨k,a,o,n⟩=0):Calls Tryz.prog 134 #[.agg #[I k,I a,I o,I n]] w fun e w'=>∃ r,e=.returned r/\Ext w w'/\zie ⟨k,a,o,n⟩ r w':=by
 obtain ⟨hk,hn⟩:=zeJ hc;have HN:Hid (k=1∨k=4->-1073741824<=n/\n<=1073741824):=hn;clear hc hn;have he0:Ext w (w.alloc (.cells #[I k,I a,I o,I n] 34)):=(Ext.refl w).alloc _;rcases hk with rfl | rfl | rfl | rfl | rfl | rfl
 ·go_enter Tryz.func134,Tryz.ntmps134
  go_wp2_with fail
  refine (zpC a o n _).mono ?_;rintro e w1 ⟨r,rfl,he,hd⟩
  go_wp2
  go_ret
  exact ⟨_,rfl,he0.trans he,hd⟩
 ·go_enter Tryz.func134,Tryz.ntmps134
  go_wp2_with fail
  refine (zfh ⟨2,a,o,n⟩ _ _ (zrq a o n _) (fun l ha=>by rw [zjE,if_pos ha])).mono ?_;rintro e w1 ⟨r,rfl,he,hd⟩
  go_wp2
  go_ret
  exact ⟨_,rfl,he0.trans he,hd⟩
 ·go_enter Tryz.func134,Tryz.ntmps134
  go_wp2_with fail
  refine (zfh ⟨3,a,o,n⟩ _ _ (zph a o n _) (fun l ha=>by rw [zg9,if_pos ha])).mono ?_;rintro e w1 ⟨r,rfl,he,hd⟩
  go_wp2
  go_ret
  exact ⟨_,rfl,he0.trans he,hd⟩
 ·have q1:(w.alloc (.cells #[I 4,I a,I o,I n] 34)).cell? ⟨w.heap.size,1,none⟩=some (I a):=by simp
  have q3:(w.alloc (.cells #[I 4,I a,I o,I n] 34)).cell? ⟨w.heap.size,3,none⟩=some (I n):=by simp
  have HQ1:Hid _:=q1;have HQ3:Hid _:=q3;clear q1 q3;go_enter Tryz.func134,Tryz.ntmps134
  go_wp2_with fail
  refine zbe [none,none,none,none,some (.inr (zhB ⟨4,a,o,n⟩)),some (.inr (zie ⟨4,a,o,n⟩)),none] (by kernel_rfl) (by kernel_rfl) ?_ ?_
  ·exact ⟨trivial,trivial,trivial,trivial,zm7 _,znf _,trivial,trivial⟩
  (refine zap (fun K hK=>?_); go_simp; refine hK _ ?_; clear hK K)
  refine zay (I a) rfl (fun w' hw'=>by have t1:=hw'.cell HQ1.o; go_simp) ?_;(refine zap (fun K hK=>?_); go_simp; refine hK _ ?_; clear hK K)
  refine zay (I n) rfl (fun w' hw'=>by have t1:=hw'.cell HQ3.o; go_simp) ?_;refine zbb _ rfl (fun w' hw' _=>?_) (fun v30=>?_)
  ·have hg:=zpj a o n w' (HN.o (by simp));unfold zaQ;go_simp
   exact ⟨Ext.refl _,hg⟩
  refine zbb _ rfl (fun w' hw' hk=>?_) (fun v31=>?_)
  ·have h7:zhB ⟨4,a,o,n⟩ v30 w':=hk 30 (by decide);have hg:=zfh ⟨4,a,o,n⟩ v30 w' h7 (fun l ha=>by rw [zh1,if_pos ha]);clear hk h7;unfold zaQ;go_simp
   exact ⟨Ext.refl _,hg⟩
  (refine zap (fun K hK=>?_); go_simp; refine hK _ ?_; clear hK K)
  refine zaP ?_;intro w2 he2 hF;have hd:zie ⟨4,a,o,n⟩ v31 w2:=hF 31;go_wp2
  go_ret
  exact ⟨_,rfl,he0.trans he2,hd⟩
 ·go_enter Tryz.func134,Tryz.ntmps134
  go_wp2
  go_ret
  exact ⟨_,rfl,he0,znQ a o n _⟩
 ·have q1:(w.alloc (.cells #[I 6,I a,I o,I n] 34)).cell? ⟨w.heap.size,1,none⟩=some (I a):=by simp
  have q3:(w.alloc (.cells #[I 6,I a,I o,I n] 34)).cell? ⟨w.heap.size,2,none⟩=some (I o):=by simp
  have HQ1:Hid _:=q1;have HQ3:Hid _:=q3;clear q1 q3;go_enter Tryz.func134,Tryz.ntmps134
  go_wp2_with fail
  refine zbe [none,none,none,none,some (.inr (zhB ⟨6,a,o,n⟩)),some (.inr (zie ⟨6,a,o,n⟩)),none] (by kernel_rfl) (by kernel_rfl) ?_ ?_
  ·exact ⟨trivial,trivial,trivial,trivial,zm7 _,znf _,trivial,trivial⟩
  (refine zap (fun K hK=>?_); go_simp; refine hK _ ?_; clear hK K)
  refine zay (I a) rfl (fun w' hw'=>by have t1:=hw'.cell HQ1.o; go_simp) ?_;(refine zap (fun K hK=>?_); go_simp; refine hK _ ?_; clear hK K)
  refine zay (I o) rfl (fun w' hw'=>by have t1:=hw'.cell HQ3.o; go_simp) ?_;refine zbb _ rfl (fun w' hw' _=>?_) (fun v30=>?_)
  ·have hg:=zoi a o n w';unfold zaQ;go_simp
   exact ⟨Ext.refl _,hg⟩
  refine zbb _ rfl (fun w' hw' hk=>?_) (fun v31=>?_)
  ·have h7:zhB ⟨6,a,o,n⟩ v30 w':=hk 38 (by decide);have hg:=zfh ⟨6,a,o,n⟩ v30 w' h7 (fun l ha=>by rw [zgc,if_pos ha]);clear hk h7;unfold zaQ;go_simp
   exact ⟨Ext.refl _,hg⟩
  (refine zap (fun K hK=>?_); go_simp; refine hK _ ?_; clear hK K)
  refine zaP ?_;intro w2 he2 hF;have hd:zie ⟨6,a,o,n⟩ v31 w2:=hF 39;go_wp2
  go_ret
  exact ⟨_,rfl,he0.trans he2,hd⟩

def zkR (base:Nat) (l:List (Int×Int)) (c:Cl) (r:Value) (w:World):Prop:=∃ u,r=.tuple #[u,(zbw l c).2.val]/\Has base w u (zbw l c).1

theorem zr6 (v:Value) (l:List (Int×Int)) (k a o n:Int) (w:World) (hv:zax w v l) (hl:Okw l) (hc:wrongCl ⟨k,a,o,n⟩=0):Calls Tryz.prog 126 #[v,.agg #[I k,I a,I o,I n]] w fun e w'=>∃ r,e=.returned r/\Ext w w'/\zkR w.heap.size l ⟨k,a,o,n⟩ r w':=by
 have he0:Ext w ((w.alloc (.cells #[I k,I a,I o,I n] 34)).alloc (.cells #[I 0,I 0] 39)):=((Ext.refl w).alloc _).alloc _
 have hbx:((w.alloc (.cells #[I k,I a,I o,I n] 34)).alloc (.cells #[I 0,I 0] 39)).heap[w.heap.size+1]?=some (.cells #[I 0,I 0] 39):=by
  have:=heap_alloc_new (w.alloc (.cells #[I k,I a,I o,I n] 34)) (.cells #[I 0,I 0] 39);simpa using this
 have HBX:Hid _:=hbx;clear hbx;go_enter Tryz.func126,Tryz.ntmps126
 go_wp2_with fail
 refine (zn8 k a o n _ hc).mono ?_;rintro e w1 ⟨r,rfl,e1,F,caps,rfl,hE,hF⟩
 have HF:Hid _:=hF;clear hF;unfold zcO at hE;have hw1:Ext w w1:=he0.trans e1;go_wp2_with fail
 refine (zrk v l w1 (hv.ext hw1) (by have:=hl.len; omega)).mono ?_;rintro e w2 ⟨rfl,ho,e2⟩
 have hs1:w.heap.size+1 < w1.heap.size:=by have:=e1.size; simp at this; omega
 generalize hgs:w1.heap.size=g at *;go_wp2_with fail
 refine (HF.o l g w2 e2 ho hl).mono ?_;rintro e w3 ⟨u,x,m,lo,rfl,hov,hu,hgr⟩
 have hb3:w3.heap[w.heap.size+1]?=some (.cells #[I 0,I 0] 39):=by
  rw [hgr.block (w.heap.size+1) (by have:=e2.size; omega) (fun e=>by have e2:w.heap.size+1=g:=Option.some.inj e; omega),e2.block _ (by omega),e1.block _ (by simp)];exact HBX.o
 obtain ⟨c0,c1,f0,f1⟩:=zaL hb3 (Ext.refl w3);have hw3:Ext w w3:=(hw1.trans e2).grown hgr (fun k hk=>by cases hk; omega);clear hE;generalize hD:zbw l ⟨k,a,o,n⟩=D at *;have HD:Hid (zbw l ⟨k,a,o,n⟩=D):=hD;clear hD;obtain ⟨D1,D2,D3⟩:=D;go_wp2
 try simp only [Exit.inBlock,Exit.then]
 refine bodyPost_ret (by simp [results,Tryz.results126,go_sem,c0,c1]; rfl) rfl ?_;have hne:=zbc hov hb3 (by decide);refine ⟨_,rfl,(hw3.setCell (Nat.le_succ _) _).setCell (Nat.le_succ _) _,u,?_,?_⟩
 ·rw [HD.o]
 ·rw [HD.o]; exact Has.low ⟨x,m,lo,zbs (zbs hov hne _ _) hne _ _,hu⟩ (by omega)

open Go.RowKit Go.Mk

open Go.RowKit Go.Mk

theorem zr9 (v:Value) (xs:List Int) (w:World) (hv:zby w v xs) (hw:xs.length=11/\0<=xs.getD 0 0/\xs.getD 0 0<=5) :
  Calls Tryz.prog 127 #[v] w fun e w'=>∃ r,e=.returned r/\Ext w w'/\zax w' r (zaN xs (xs.getD 0 0).toNat):=by
 obtain ⟨hl,x0,x5⟩:=id hw;obtain ⟨i0,hi,hz0,hz1,hz2⟩:=info_parts Tryz.infoWrite2;have he:zcz xs=xs.getD 0 0:=by unfold zcz; rw [if_neg (by omega)]; omega
 have H3:Hid (∀ k,k < 11->∃ ao cap,v=.slice ao 11 cap/\11<=cap/\cap<=maxLen/\∃ b off,ao=some ⟨b,off,none⟩/\w.cell? ⟨b,off+k,none⟩=some (I (xs.getD k 0))):=fun k hk=>by
  obtain ⟨ao,cap,h1,h2,h3,h4⟩:=hv.form;rw [hl] at h1 h2 h4;exact ⟨ao,cap,h1,h2,h3,h4 k hk⟩
 obtain ⟨ao,cap,rfl,hcap,hm,b,off,rfl,_⟩:=H3.o 0 (by omega)
 have HC:Hid (∀ k,k < 11->w.cell? ⟨b,off+k,none⟩=some (I (xs.getD k 0))):=fun k hk=>by
  obtain ⟨ao,cap',h1,_,_,b',off',h2,h3⟩:=H3.o k hk;rw [h2] at h1;simp only [Value.slice.injEq,Option.some.injEq,Addr.mk.injEq,and_true] at h1;obtain ⟨⟨rfl,rfl⟩,_,rfl⟩:=h1;exact h3
 clear H3;unfold maxLen at hm;generalize hX:xs.getD 0 0=x at *;clear hX hw hl;go_enter Tryz.func127,Tryz.ntmps127
 go_wp2_with fail
 refine Calls.same (ziJ _ xs _ hv) ?_;rw [he];clear he hv;go_wp2_with fail
 go_loopw [3,7] (fun o i wr=>∃ k:Nat,(k:Int)<=x/\i=I k/\wr.ownsRow w.heap.size 111 2 o k (zaB (zaN xs k))/\Ext w wr) (fun _ i _=>x.toNat - (intOf i).toNat)
 case atStart=>exact ⟨0,by omega,rfl,World.ownsRow_nil _ _ _ _,Ext.refl w⟩
 case round =>
  obtain ⟨k,hk,rfl,ho,he⟩:=hrel;by_cases hlt:(k:Int) < x
  ·have c1:=he.cell (HC.o (1+2 * k) (by omega));have c2:=he.cell (HC.o (1+2 * k+1) (by omega));have HS:Hid (zaN xs (k+1)=zaN xs k++[(xs.getD (1+2 * k) 0,xs.getD (1+2 * k+1) 0)]):=zh5 xs k;generalize xs.getD (1+2 * k) 0=p at *;generalize xs.getD (1+2 * k+1) 0=q at *;have a1:(0:Int)<=1+2 * (k:Int):=by omega
   have a2:1+2 * (k:Int) < 11:=by omega
   have a3:(1+2 * (k:Int)).toNat=1+2 * k:=by omega
   have a4:(0:Int)<=1+2 * (k:Int)+1:=by omega
   have a5:1+2 * (k:Int)+1 < 11:=by omega
   have a6:(1+2 * (k:Int)+1).toNat=1+2 * k+1:=by omega
   go_wp2_with fail
   refine zan 13 [none,none,none,some (.inl (I (1+2 * (k:Int)))),none,none,none,none,some (.inl (I (1+2 * (k:Int)+1))),none,none,none,some (.inr fun v w=>zax w v [(p,q)])] (by kernel_rfl) (by kernel_rfl) ?_ ?_
   ·exact ⟨trivial,trivial,trivial,trivial,trivial,trivial,trivial,trivial,trivial,trivial,trivial,trivial,ze3 _,trivial⟩
   iterate 3 (refine zap (fun K hK=>?_); go_simp; refine hK _ ?_; clear hK K)
   refine zdp _ rfl (fun w' hw' _=>?_) ?_
   ·have hg:=zej (zeI k w' (by omega) (by omega));unfold zaQ;go_simp
    exact ⟨Ext.refl _,hg⟩
   (refine zap (fun K hK=>?_); go_simp; refine hK _ ?_; clear hK K)
   refine zay (I p) rfl (fun w' hw'=>by have:=hw'.cell c1; go_simp) ?_;iterate 2 (refine zap (fun K hK=>?_); go_simp; refine hK _ ?_; clear hK K)
   refine zdp _ rfl (fun w' hw' _=>?_) ?_
   ·have hg:=zej (zgW k w' (by omega) (by omega));unfold zaQ;go_simp
    exact ⟨Ext.refl _,hg⟩
   (refine zap (fun K hK=>?_); go_simp; refine hK _ ?_; clear hK K)
   refine zay (I q) rfl (fun w' hw'=>by have:=hw'.cell c2; go_simp) ?_;(refine zap (fun K hK=>?_); go_simp; refine hK _ ?_; clear hK K)
   refine zbb _ rfl (fun w' hw' _=>?_) (fun v22=>?_)
   ·unfold zaQ;go_simp
    exact ⟨(Ext.refl _).alloc _,zcY _ _ _ 1 rfl rfl (by decide)⟩
   refine zaP ?_;intro w2 he2 hF;have h22:zax w2 v22 [(p,q)]:=hF 22;clear hF c1 c2;refine zaA _ rfl (.tmp 10) (.tmp 22) 27 rfl w.heap.size 111 i0 _ 2 16 zfG hi hz0 hz1 hz2 rfl (by decide) u3 k (zaB (zaN xs k)) rfl ?_ v22 rfl 1 _ h22 (zbK _) (by omega) (by decide) ?_ ?_
   ·exact zam ho he2
   ·exact Nat.le_trans he.size he2.size
   intro o' w3 ho3 hg3;have he4:Ext w w3:=(he.trans he2).grown hg3 (fun j hj=>(ho.lt j hj).1);clear hg3 he2 h22;go_wp2
   go_roundw
   case rel =>
    refine ⟨k+1,by omega,by go_num,?_,he4⟩;rw [HS.o,zbl];exact ho3
   case measure=>simp [intOf]; omega
  ·go_wp2
   go_ret
   refine ⟨_,rfl,he,?_⟩;rw [show x.toNat=k by omega];exact zaC ho
open Go.RowKit Go.Mk

theorem zmE {w:World} {b:Nat} {t:TypeId} {p q:Value} (h:w.heap[b]?=some (.cells #[p,q] t (0,0))) (u v:Value):((w.setCell ⟨b,0,none⟩ u).setCell ⟨b,1,none⟩ v).heap[b]?=some (.cells #[u,v] t (0,0)):=by
 have h1:=heap_setCell_same _ _ 0 _ _ u h
 have h2:=heap_setCell_same _ _ 1 _ _ v h1
 simpa using h2

theorem zhX {w:World} (l:List (Int×Int)) (cs:Array Value) (n:Nat) (hc:cs.toList=zaB l) (hn:l.length=n) (hm:n<=maxLen) (b:Nat) (hb:b<=w.heap.size):Has b (w.alloc (.cells cs 111)) (.slice (some ⟨w.heap.size,0,none⟩) n n) l:=by
 subst hn
 have:=World.ownsRow_lit (base:=b) (e:=111) (size:=2) w cs l.length hb hm (by rw [<- Array.length_toList,hc,zcF])
 rw [hc] at this
 exact ⟨_,_,l,this,fun w2 h2=>zaC h2⟩

theorem zjW (v:Value) (l:List (Int×Int)) (w:World) (hv:zax w v l) :
  Calls Tryz.prog 141 #[v] w fun e w'=>e=.returned (.agg #[I 0,I (l.length:Int)])/\Ext w w':=by
 obtain ⟨ao,cap,rfl,h1,h2,-⟩:=hv.form;unfold maxLen at h2;clear hv;have c0:(w.alloc (.cells #[I 0,I (l.length:Int)] 111)).cell? ⟨w.heap.size,0,none⟩=some (I 0):=by simp
 have c1:(w.alloc (.cells #[I 0,I (l.length:Int)] 111)).cell? ⟨w.heap.size,1,none⟩=some (I (l.length:Int)):=by simp
 go_enter Tryz.func141,Tryz.ntmps141
 go_wp2
 refine bodyPost_ret (by simp [results,Tryz.results141,go_sem]; rfl) rfl ?_;exact ⟨rfl,(Ext.refl _).alloc _⟩

theorem zpI (v:Value) (l:List (Int×Int)) (i:Nat) (w:World) (hv:zax w v l) (hi:i < l.length) (hl:l.length<=5) :
  Calls Tryz.prog 153 #[v,I i] w fun e w'=>e=.returned (.agg #[I (1+2 * (i:Int)),I (l.getD i (0,0)).1])/\Ext w w':=by
 obtain ⟨ao,cap,rfl,h1,h2,h3⟩:=hv.form;unfold maxLen at h2;obtain ⟨b,off,rfl,c1,c2⟩:=h3 i hi;generalize (l.getD i (0,0)).1=p at *;generalize (l.getD i (0,0)).2=q at *;clear hv h3;have e0:Ext w (w.alloc (.cells #[I 0,I 0] 111)):=(Ext.refl w).alloc _;have HB:Hid ((w.alloc (.cells #[I 0,I 0] 111)).heap[w.heap.size]?=some (.cells #[I 0,I 0] 111 (0,0))):=heap_alloc_new _ _;have d1:=e0.cell c1;clear c1 c2;go_enter Tryz.func153,Tryz.ntmps153
 go_wp2_with fail
 refine zan 8 [none,some (.inl (I (1+2 * (i:Int)))),none,none,none,none,none,none] (by kernel_rfl) (by kernel_rfl) ?_ ?_
 ·exact ⟨trivial,trivial,trivial,trivial,trivial,trivial,trivial,trivial,trivial⟩
 (refine zap (fun K hK=>?_); go_simp; refine hK _ ?_; clear hK K)
 refine zdp _ rfl (fun w' hw' _=>?_) ?_
 ·have hg:=zej (zeI i w' (by omega) (by omega));unfold zaQ;go_simp
  exact ⟨Ext.refl _,hg⟩
 iterate 4 (refine zap (fun K hK=>?_); go_simp; refine hK _ ?_; clear hK K)
 refine zay (I p) rfl (fun w' hw'=>by have:=hw'.cell d1; go_simp) ?_;(refine zap (fun K hK=>?_); go_simp; refine hK _ ?_; clear hK K)
 refine zaP ?_;intro w4 he4 _;have hb4:w4.heap[w.heap.size]?=some (.cells #[I 0,I 0] 111 (0,0)):=by rw [he4.block _ (by simp)]; exact HB.o
 obtain ⟨x0,x1,f0,f1⟩:=zaL hb4 (Ext.refl _);go_wp2
 obtain ⟨z0,z1,-,-⟩:=zaL (zmE hb4 (I (1+2 * (i:Int))) (I p)) (Ext.refl _);clear x0 x1 f0 f1;refine bodyPost_ret (by simp [results,Tryz.results153,go_sem,z0,z1]; rfl) rfl ?_;exact ⟨rfl,((e0.trans he4).setCell (Nat.le_refl _) _).setCell (Nat.le_refl _) _⟩

theorem zfb (v:Value) (l:List (Int×Int)) (i:Nat) (w:World) (hv:zax w v l) (hi:i < l.length) (hl:l.length<=5) :
  Calls Tryz.prog 140 #[v,I i] w fun e w'=>e=.returned (.agg #[I (2+2 * (i:Int)),I (l.getD i (0,0)).2])/\Ext w w':=by
 obtain ⟨ao,cap,rfl,h1,h2,h3⟩:=hv.form;unfold maxLen at h2;obtain ⟨b,off,rfl,c1,c2⟩:=h3 i hi;generalize (l.getD i (0,0)).1=p at *;generalize (l.getD i (0,0)).2=q at *;clear hv h3;have e0:Ext w (w.alloc (.cells #[I 0,I 0] 111)):=(Ext.refl w).alloc _;have HB:Hid ((w.alloc (.cells #[I 0,I 0] 111)).heap[w.heap.size]?=some (.cells #[I 0,I 0] 111 (0,0))):=heap_alloc_new _ _;have d1:=e0.cell c2;clear c1 c2;go_enter Tryz.func140,Tryz.ntmps140
 go_wp2_with fail
 refine zan 8 [none,some (.inl (I (1+2 * (i:Int)+1))),none,none,none,none,none,none] (by kernel_rfl) (by kernel_rfl) ?_ ?_
 ·exact ⟨trivial,trivial,trivial,trivial,trivial,trivial,trivial,trivial,trivial⟩
 (refine zap (fun K hK=>?_); go_simp; refine hK _ ?_; clear hK K)
 refine zdp _ rfl (fun w' hw' _=>?_) ?_
 ·have hg:=zej (zgW i w' (by omega) (by omega));unfold zaQ;go_simp
  exact ⟨Ext.refl _,hg⟩
 iterate 4 (refine zap (fun K hK=>?_); go_simp; refine hK _ ?_; clear hK K)
 refine zay (I q) rfl (fun w' hw'=>by have:=hw'.cell d1; go_simp) ?_;(refine zap (fun K hK=>?_); go_simp; refine hK _ ?_; clear hK K)
 refine zaP ?_;intro w4 he4 _;have hb4:w4.heap[w.heap.size]?=some (.cells #[I 0,I 0] 111 (0,0)):=by rw [he4.block _ (by simp)]; exact HB.o
 obtain ⟨x0,x1,f0,f1⟩:=zaL hb4 (Ext.refl _);go_wp2
 obtain ⟨z0,z1,-,-⟩:=zaL (zmE hb4 (I (1+2 * (i:Int)+1)) (I q)) (Ext.refl _);clear x0 x1 f0 f1;refine bodyPost_ret (by simp [results,Tryz.results140,go_sem,z0,z1]; rfl) rfl ?_;exact ⟨by rw [show 2+2 * (i:Int)=1+2 * (i:Int)+1 by omega],((e0.trans he4).setCell (Nat.le_refl _) _).setCell (Nat.le_refl _) _⟩

end Go.Proofs.YtdmipnnfoolelafGreat

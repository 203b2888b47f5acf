/- Texts of the proof, merged: M5 M6 M7 M8 W5 M9 QB M10. -/
import Derived.Test.YtdmipnnfoolelafKTA
import Derived.Test.YtdmipnnfoolelafKT0
import Derived.Test.YtdmipnnfoolelafKTC
import Derived.Test.YtdmipnnfoolelafKTL
import Derived.Test.YtdmipnnfoolelafKTR
import Derived.Test.YtdmipnnfoolelafKTZ
import Derived.Test.YtdmipnnfoolelafKTV
set_option maxHeartbeats 1000000
set_option maxRecDepth 100000

namespace Go.Proofs.Ytdmipnnfoolelaf
open Go.RowKit Go.Mk

theorem zmQ (l:List (Int×Int)) (g i b:Nat) (name:Int) (w:World) (ho:zcB w g l) (hi:i < l.length) (hb:w.cell? ⟨b,0,none⟩=some (I name)) (hbl:b < w.heap.size) :
  Calls Try.prog 90 #[.slice (some ⟨g,0,none⟩) l.length l.length,I i,.pointer (some ⟨b,0,none⟩)] w fun e w' =>
   if at1 l name < l.length then ze7 w g (zch (zch l i (num l (at1 l name))) (at1 l name) (num l i)) ⟨0,num l (at1 l name)⟩ e w' else ze7 w g l ⟨6,0⟩ e w':=by
 have hg:g < w.heap.size:=(ho.lt g rfl).2;by_cases ha:at1 l name < l.length
 case neg =>
  simp only [ha,if_false];have hf:zdN l name=-1:=by unfold zdN; rw [if_neg ha]
  go_enter Try.func90,Try.ntmps90
  go_wp2_with fail
  refine Calls.exts (zdL _ l name _ (zar (ho.alloc _))) (fun wa ea=>?_);rw [hf];go_wp2_with fail
  refine Calls.exts (zdV _ _ _) (fun w1 e1=>?_);obtain ⟨c0,c1,f0,f1⟩:=zaC (heap_alloc_new w _) (ea.trans e1);have he:Ext w w1:=(((Ext.refl w).alloc _).trans ea).trans e1;go_wp2
  try simp only [Exit.inBlock,Exit.then]
  refine bodyPost_ret (by simp [results,Try.results90,go_sem,c0,c1]; rfl) rfl ?_;exact zbY (Nat.le_refl _) (zaw ho he) (zdE ho) (he.grownBy _) (fun w2 h2=>zar h2)
 simp only [ha,if_true];have hf:zdN l name=(at1 l name:Int):=by unfold zdN; rw [if_pos ha]
 generalize hA:at1 l name=A at *;have HS:Hid (∀ wx,Ext w wx->zcB wx g l):=fun wx hx=>zaw ho hx;go_enter Try.func90,Try.ntmps90
 go_wp2_with fail
 refine Calls.exts (zdL _ l name _ (zar (ho.alloc _))) (fun wa ea=>?_);rw [hf];have hoa:zcB wa g l:=HS.o wa (((Ext.refl w).alloc _).trans ea);obtain ⟨k1,k2⟩:=zb1 hoa i hi;obtain ⟨k3,k4⟩:=zb1 hoa A ha;have f2:wa.frozen? ⟨g,i * 2+1,none⟩=false:=hoa.frozenAt _;have f4:wa.frozen? ⟨g,A * 2+1,none⟩=false:=hoa.frozenAt _;replace k2:wa.cell? ⟨g,i * 2+1,none⟩=some (I (num l i)):=k2;replace k4:wa.cell? ⟨g,A * 2+1,none⟩=some (I (num l A)):=k4;clear k1 k3
 have HW:Hid (∀ x y:Int,zcB (((wa.setCell ⟨g,i * 2+1,none⟩ (I x)).setCell ⟨g,A * 2+1,none⟩ (I y)).drew) g (zch (zch l i x) A y)):=fun x y =>
  zaw (zeK (zeK hoa i hi x) A (by rw [zaH]; exact ha) y) (Ext.refl _).drew
 have HG:Hid (∀ x y:Value,wa.grownBy (((wa.setCell ⟨g,i * 2+1,none⟩ x).setCell ⟨g,A * 2+1,none⟩ y).drew) (some g)):=fun x y =>
  zkE (zbj (zcF _ _ _ _) (zcF _ _ _ _))
 have HB:Hid (∀ x y:Value,(((wa.setCell ⟨g,i * 2+1,none⟩ x).setCell ⟨g,A * 2+1,none⟩ y).drew).heap[w.heap.size]?=some (.cells #[I 0,I 0] 38)):=fun x y=>by
  show ((wa.setCell ⟨g,i * 2+1,none⟩ x).setCell ⟨g,A * 2+1,none⟩ y).heap[w.heap.size]?=_
  rw [Below.heap_setCell _ _ _ _ (fun e=>by simp only [] at e; omega),Below.heap_setCell _ _ _ _ (fun e=>by simp only [] at e; omega)];exact zbb ea
 have HN:Hid (num (zch (zch l i (num l A)) A (num l i)) i=num l A):=by
  unfold Hid;rw [zjT _ _ _ _ (by rw [zaH]; exact ha),zjT _ _ _ _ hi,if_pos rfl];by_cases e:A=i
  ·rw [if_pos e,e]
  ·rw [if_neg e]
 generalize hm:num l i=m at *;have HM:Hid (num l i=m):=hm;clear hm;generalize hn:num l A=n at *;have HNA:Hid (num l A=n):=hn;clear hn;have hgw:w.grownBy wa (some g):=(((Ext.refl w).alloc _).trans ea).grownBy _;by_cases hiA:i=A
 ·subst hiA
  have hmn:n=m:=by
   have:=k2.symm.trans k4;simpa using this.symm
  subst hmn;go_wp2_with fail
  go_region
  have hob:=HW.o n n;have hgb:=HG.o (I n) (I n);have hbb:=HB.o (I n) (I n);have kb:=(zb1 hob i (by rw [zaH,zaH]; exact hi)).2;generalize ((wa.setCell ⟨g,i * 2+1,none⟩ (I n)).setCell ⟨g,i * 2+1,none⟩ (I n)).drew=wb at *;replace kb:wb.cell? ⟨g,i * 2+1,none⟩=some (I n):=by rw [kb]; exact congrArg (some ∘ I) HN.o
  clear k2 k4 f2 f4;go_wp2_with fail
  refine Calls.exts (zdt _ _ _) (fun w1 e1=>?_);obtain ⟨c0,c1,f0,f1⟩:=zaC hbb e1;go_wp2
  try simp only [Exit.inBlock,Exit.then]
  refine bodyPost_ret (by simp [results,Try.results90,go_sem,c0,c1]; rfl) rfl ?_;rw [HNA.o];exact zbY (r:=⟨0,n⟩) (Nat.le_refl _) (zaw hob e1) (zdE ho) (zbj (zbj hgw hgb) (e1.grownBy _)) (fun w2 h2=>by have:=zar h2; rwa [zaH,zaH] at this)
 ·have d1:¬ (i * 2+1=A * 2+1):=by omega
  have d2:¬ (A * 2+1=i * 2+1):=by omega
  go_wp2_with fail
  go_region
  have hob:=HW.o n m;have hgb:=HG.o (I n) (I m);have hbb:=HB.o (I n) (I m);have kb:=(zb1 hob i (by rw [zaH,zaH]; exact hi)).2;generalize ((wa.setCell ⟨g,i * 2+1,none⟩ (I n)).setCell ⟨g,A * 2+1,none⟩ (I m)).drew=wb at *;replace kb:wb.cell? ⟨g,i * 2+1,none⟩=some (I n):=by rw [kb]; exact congrArg (some ∘ I) HN.o
  clear k2 k4 f2 f4;go_wp2_with fail
  refine Calls.exts (zdt _ _ _) (fun w1 e1=>?_);obtain ⟨c0,c1,f0,f1⟩:=zaC hbb e1;go_wp2
  try simp only [Exit.inBlock,Exit.then]
  refine bodyPost_ret (by simp [results,Try.results90,go_sem,c0,c1]; rfl) rfl ?_;rw [HNA.o,HM.o];exact zbY (r:=⟨0,n⟩) (Nat.le_refl _) (zaw hob e1) (zdE ho) (zbj (zbj hgw hgb) (e1.grownBy _)) (fun w2 h2=>by have:=zar h2; rwa [zaH,zaH] at this)

theorem znx (l:List (Int×Int)) (g b1 b2:Nat) (name n:Int) (w:World) (ho:zcB w g l) (hr:(l.length+1) * 16<=140737488355328) (h1:w.cell? ⟨b1,0,none⟩=some (I name)) (hb1:b1 < w.heap.size) (h2:w.cell? ⟨b2,0,none⟩=some (I n)) :
  Calls Try.prog 85 #[.slice (some ⟨g,0,none⟩) l.length l.length,.pointer (some ⟨b1,0,none⟩),.pointer (some ⟨b2,0,none⟩)] w fun e w' =>
   if at1 l name < l.length then ze7 w g (zch l (at1 l name) n) ⟨0,num l (at1 l name)⟩ e w' else if 5<=l.length then ze7 w g l ⟨9,0⟩ e w' else ze7 w g (l++[(name,n)]) ⟨0,0⟩ e w':=by
 have hg:g < w.heap.size:=(ho.lt g rfl).2;obtain ⟨i0,hi0,hz0,hz1,hz2⟩:=info_parts Try.infoWrite2;by_cases ha:at1 l name < l.length
 ·simp only [ha,if_true];have hf:zdN l name=(at1 l name:Int):=by unfold zdN; rw [if_pos ha]
  generalize hA:at1 l name=A at *;have HS:Hid (∀ wx,Ext w wx->zcB wx g l):=fun wx hx=>zaw ho hx;go_enter Try.func85,Try.ntmps85
  go_wp2_with fail
  refine Calls.exts (zdL _ l name _ (zar (ho.alloc _))) (fun wa ea=>?_);rw [hf];have hea:Ext w wa:=((Ext.refl w).alloc _).trans ea;have hoa:zcB wa g l:=HS.o wa hea;obtain ⟨_,k2⟩:=zb1 hoa A ha;have f2:wa.frozen? ⟨g,A * 2+1,none⟩=false:=hoa.frozenAt _;replace k2:wa.cell? ⟨g,A * 2+1,none⟩=some (I (num l A)):=k2;have g2:=hea.cell h2;have hob:=zeK hoa A ha n;have hgb:w.grownBy _ (some g):=zbj (hea.grownBy (some g)) (zcF wa g (A * 2+1) (I n))
  have hbb:(wa.setCell ⟨g,A * 2+1,none⟩ (I n)).heap[w.heap.size]?=some (.cells #[I 0,I 0] 38):=by
   rw [Below.heap_setCell _ _ _ _ (fun e=>by simp only [] at e; omega)];exact zbb ea
  go_wp2_with fail
  refine Calls.exts (zdt _ _ _) (fun w1 e1=>?_);obtain ⟨c0,c1,f0,f1⟩:=zaC hbb e1;go_wp2
  try simp only [Exit.inBlock,Exit.then]
  refine bodyPost_ret (by simp [results,Try.results85,go_sem,c0,c1]; rfl) rfl ?_;exact zbY (Nat.le_refl _) (zaw hob e1) (zdE ho) (zbj hgb (e1.grownBy _)) (fun w2 h2=>by have:=zar h2; rwa [zaH] at this)
 simp only [ha,if_false];have hf:zdN l name=-1:=by unfold zdN; rw [if_neg ha]
 by_cases h5:5<=l.length
 ·simp only [h5,if_true];have h5':(5:Int)<=(l.length:Int):=by omega
  go_enter Try.func85,Try.ntmps85
  go_wp2_with fail
  refine Calls.exts (zdL _ l name _ (zar (ho.alloc _))) (fun wa ea=>?_);rw [hf];go_wp2_with fail
  refine Calls.exts (zdV _ _ _) (fun w1 e1=>?_);obtain ⟨c0,c1,f0,f1⟩:=zaC (heap_alloc_new w _) (ea.trans e1);have he:Ext w w1:=(((Ext.refl w).alloc _).trans ea).trans e1;go_wp2
  try simp only [Exit.inBlock,Exit.then]
  refine bodyPost_ret (by simp [results,Try.results85,go_sem,c0,c1]; rfl) rfl ?_;exact zbY (Nat.le_refl _) (zaw ho he) (zdE ho) (he.grownBy _) (fun w2 h2=>zar h2)
 ·simp only [h5,if_false];have h5':(l.length:Int) < 5:=by omega
  go_enter Try.func85,Try.ntmps85
  go_wp2_with fail
  refine Calls.exts (zdL _ l name _ (zar (ho.alloc _))) (fun wa ea=>?_);rw [hf];have hea:Ext w wa:=((Ext.refl w).alloc _).trans ea;have g1:=hea.cell h1;have g2:=hea.cell h2;have hoa:zcB wa g l:=zaw ho hea;have hba:=zbb ea;have hsa:g<=wa.heap.size:=Nat.le_trans (Nat.le_of_lt hg) hea.size;have hbs:w.heap.size < wa.heap.size:=(Array.getElem?_eq_some_iff.1 hba).1;go_wp2_with (at_builtin; refine zav _ rfl _ _ 26 rfl g 74 i0 (.agg #[.int .i64 0,.int .i64 0]) 2 16 zfr hi0 hz0 hz1 hz2 rfl (by decide) _ _ _ rfl (hoa.alloc _) _ rfl 1 [I name,I n] (zcf (l:=[(name,n)]) _ _ 1 rfl rfl (by decide)) (zbp [(name,n)]) (by omega) (by decide) (by simp; omega) ?_; intro v' w3 ho3 hg3)
  have hb3:w3.heap[w.heap.size]?=some (.cells #[I 0,I 0] 38):=by
   have hg4:(wa.alloc (.cells #[I name,I n] 74)).grownBy w3 (some g):=hg3;rw [hg4.block w.heap.size (by simp; omega) (fun e=>by have e2:w.heap.size=g:=Option.some.inj e; omega),heap_alloc_old _ _ hbs];exact hba
  have hgw:w.grownBy w3 (some g):=zbj ((hea.alloc _).grownBy _) hg3;refine Calls.exts (zdt _ _ _) (fun w1 e1=>?_);obtain ⟨c0,c1,f0,f1⟩:=zaC hb3 e1;go_wp2
  try simp only [Exit.inBlock,Exit.then]
  refine bodyPost_ret (by simp [results,Try.results85,go_sem,c0,c1]; rfl) rfl ?_;rw [show zat l++[I name,I n]=zat (l++[(name,n)]) from (za4 l [(name,n)]).symm] at ho3;exact zbY (Nat.le_refl _) (zaw ho3 e1) (zfb ho3 hb3 (by decide)) (zbj hgw (e1.grownBy _)) (fun w2 h2=>zar h2)

open Go.RowKit Go.Mk

def zdp (F:FuncId):Prop:=∀ (args:Array Value) (w:World),(callFunc F args).run Try.prog w=.ok (.enter F args) w
theorem enters_get:zdp 77:=fun _ _=>by kernel_rfl
theorem enters_drop:zdp 78:=fun _ _=>by kernel_rfl
theorem enters_add:zdp 88:=fun _ _=>by kernel_rfl
theorem enters_swap:zdp 90:=fun _ _=>by kernel_rfl
theorem enters_there:zdp 87:=fun _ _=>by kernel_rfl
theorem enters_put:zdp 85:=fun _ _=>by kernel_rfl
theorem enters_count:zdp 74:=fun _ _=>by kernel_rfl
theorem zlc (F:FuncId) (caps:Array Value) (l:List (Int×Int)) (g b1 b2:Nat) (name:Int) (w:World) (l':List (Int×Int)) (r:Rp) (ho:zcB w g l) (h1:w.cell? ⟨b1,0,none⟩=some (I name)) (hb1:b1 < w.heap.size)
  (h2:w.cell? ⟨b2,0,none⟩=some (.func (.func F) #[] caps))
  (hE:zdp F) (hF:at1 l name < l.length->∀ wa,Ext w wa->Calls Try.prog F (#[.slice (some ⟨g,0,none⟩) l.length l.length,I (at1 l name)]++caps) wa fun e w'=>ze7 wa g l' r e w') :
  Calls Try.prog 87 #[.slice (some ⟨g,0,none⟩) l.length l.length,.pointer (some ⟨b1,0,none⟩),.pointer (some ⟨b2,0,none⟩)] w fun e w' =>
   if at1 l name < l.length then ze7 w g l' r e w' else ze7 w g l ⟨6,0⟩ e w':=by
 have hg:g < w.heap.size:=(ho.lt g rfl).2;by_cases ha:at1 l name < l.length
 case neg =>
  simp only [ha,if_false];have hf:zdN l name=-1:=by unfold zdN; rw [if_neg ha]
  clear hF;go_enter Try.func87,Try.ntmps87
  go_wp2_with fail
  refine Calls.exts (zdL _ l name _ (zar (ho.alloc _))) (fun wa ea=>?_);rw [hf];go_wp2_with fail
  refine Calls.exts (zdV _ _ _) (fun w1 e1=>?_);obtain ⟨c0,c1,f0,f1⟩:=zaC (heap_alloc_new w _) (ea.trans e1);have he:Ext w w1:=(((Ext.refl w).alloc _).trans ea).trans e1;go_wp2
  try simp only [Exit.inBlock,Exit.then]
  refine bodyPost_ret (by simp [results,Try.results87,go_sem,c0,c1]; rfl) rfl ?_;exact zbY (Nat.le_refl _) (zaw ho he) (zdE ho) (he.grownBy _) (fun w2 h2=>zar h2)
 simp only [ha,if_true];have hf:zdN l name=(at1 l name:Int):=by unfold zdN; rw [if_pos ha]
 have HF:Hid (∀ wa,Ext w wa->Calls Try.prog F (#[.slice (some ⟨g,0,none⟩) l.length l.length,I (at1 l name)]++caps) wa fun e w'=>ze7 wa g l' r e w'):=hF ha;clear hF;generalize hA:at1 l name=A at *;go_enter Try.func87,Try.ntmps87
 go_wp2_with fail
 refine Calls.exts (zdL _ l name _ (zar (ho.alloc _))) (fun wa ea=>?_);rw [hf];have hea:Ext w wa:=((Ext.refl w).alloc _).trans ea;have g2:=hea.cell h2;have hE2:=hE;unfold zdp at hE2;go_wp2_with fail
 refine (HF.o wa hea).mono ?_;rintro e w1 ⟨u,v,n,lo,rfl,hov,hu,hgr⟩
 have hb1:w1.heap[w.heap.size]?=some (.cells #[I 0,I 0] 38):=by
  rw [hgr.block w.heap.size (Array.getElem?_eq_some_iff.1 (zbb ea)).1 (fun e=>by have e2:w.heap.size=g:=Option.some.inj e; omega)];exact zbb ea
 obtain ⟨c0,c1,f0,f1⟩:=zaC hb1 (Ext.refl w1);clear hE2;go_wp2
 try simp only [Exit.inBlock,Exit.then]
 refine bodyPost_ret (by simp [results,Try.results87,go_sem,c0,c1]; rfl) rfl ?_;exact zbY (Nat.le_refl _) hov (zfb hov hb1 (by decide)) (zbj (hea.grownBy _) hgr) hu

open Go.RowKit Go.Mk

def zfY (c:Cl) (v:Value) (w:World):Prop:=∃ F caps,v=.func (.func F) #[] caps/\zdp F/\∀ l g wa,Ext w wa->zcB wa g l->Okw l->Calls Try.prog F (#[.slice (some ⟨g,0,none⟩) l.length l.length]++caps) wa fun e w'=>ze7 wa g (za5 l c).1 (za5 l c).2 e w'

def zfz (c:Cl) (v:Value) (w:World):Prop:=∃ F caps,v=.func (.func F) #[] caps/\zdp F/\∀ l g wa,Ext w wa->zcB wa g l->Okw l->at1 l c.name < l.length->Calls Try.prog F (#[.slice (some ⟨g,0,none⟩) l.length l.length,I (at1 l c.name)]++caps) wa fun e w'=>ze7 wa g (za5 l c).1 (za5 l c).2 e w'

theorem zjL (c:Cl):∀ v,zb7 (zfY c v):=fun _ _ _ he ⟨F,caps,h1,h2,h3⟩=>⟨F,caps,h1,h2,fun l g wa hx=>h3 l g wa (he.trans hx)⟩

theorem zjC (c:Cl):∀ v,zb7 (zfz c v):=fun _ _ _ he ⟨F,caps,h1,h2,h3⟩=>⟨F,caps,h1,h2,fun l g wa hx=>h3 l g wa (he.trans hx)⟩

theorem zm1 (a o n:Int) (w:World):zfz ⟨2,a,o,n⟩ (.func (.func 77) #[] #[]) w :=
 ⟨_,_,rfl,enters_get,fun l g wa _ ho _ ha=>(zns l g _ wa ho ha).mono fun e w' h=>by rw [zhv,if_neg (by simpa using ha)]; exact h⟩

theorem zlJ (a o n:Int) (w:World):zfz ⟨3,a,o,n⟩ (.func (.func 78) #[] #[]) w :=
 ⟨_,_,rfl,enters_drop,fun l g wa _ ho hk ha=>(zmT l g _ wa ho ha (by have:=hk.len; omega)).mono fun e w' h=>by rw [zgu,if_neg (by simpa using ha)]; exact h⟩

theorem zkF (a o n:Int) (w:World):zfY ⟨5,a,o,n⟩ (.func (.func 74) #[] #[]) w :=
 ⟨_,_,rfl,enters_count,fun l g wa _ ho _=>zlB l g wa ho⟩

theorem zlR (a o n:Int) (w:World):Calls Try.prog 75 #[I a,I n] w fun e w'=>∃ r,e=.returned r/\Ext w w'/\zfY ⟨1,a,o,n⟩ r w':=by
 have hmf:=zda;go_enter Try.func75,Try.ntmps75
 go_wp2
 go_ret
 refine ⟨_,rfl,((Ext.refl w).alloc _).alloc _,_,_,rfl,enters_put,fun l g wa hx ho hk=>?_⟩;have q1:=hx.cell (p:=⟨w.heap.size,0,none⟩) (v:=I a) (by simp);have q2:=hx.cell (p:=⟨w.heap.size+1,0,none⟩) (v:=I n) (by simp);refine (znx l g _ _ a n wa ho (by have:=hk.len; omega) q1 (zcL q1) q2).mono fun e w' h=>?_;rw [zjh];by_cases ha:at1 l a < l.length
 ·rw [if_pos ha] at h ⊢; exact h
 ·rw [if_neg ha] at h ⊢;by_cases h5:5<=l.length
  ·rw [if_pos h5] at h ⊢; exact h
  ·rw [if_neg h5] at h ⊢; exact h

theorem zd2 (c:Cl) (v:Value) (w:World) (hv:zfz c v w) (hno:∀ l,¬ at1 l c.name < l.length->za5 l c=(l,⟨6,0⟩)):Calls Try.prog 76 #[I c.name,v] w fun e w'=>∃ r,e=.returned r/\Ext w w'/\zfY c r w':=by
 have hmf:=zda;obtain ⟨F,caps,rfl,hE,hF⟩:=hv;have HF:Hid _:=hF;have HE:Hid (zdp F):=hE;clear hF hE;go_enter Try.func76,Try.ntmps76
 go_wp2
 go_ret
 refine ⟨_,rfl,((Ext.refl w).alloc _).alloc _,_,_,rfl,enters_there,fun l g wa hx ho hk=>?_⟩;have hw:Ext w wa:=(((Ext.refl w).alloc _).alloc _).trans hx;have q1:=hx.cell (p:=⟨w.heap.size,0,none⟩) (v:=I c.name) (by simp);have q2:=hx.cell (p:=⟨w.heap.size+1,0,none⟩) (v:=.func (.func F) #[] caps) (by simp);refine (zlc F caps l g _ _ c.name wa (za5 l c).1 (za5 l c).2 ho q1 (zcL q1) q2 HE.o (fun ha wb hb=>HF.o l g wb (hw.trans hb) (zaw ho hb) hk ha)).mono fun e w' h=>?_;by_cases ha:at1 l c.name < l.length
 ·rw [if_pos ha] at h; exact h
 ·rw [if_neg ha] at h; rw [hno l ha]; exact h

theorem zlg (a o n:Int) (w:World) (hn:-1073741824<=n/\n<=1073741824):Calls Try.prog 79 #[I n] w fun e w'=>∃ r,e=.returned r/\Ext w w'/\zfz ⟨4,a,o,n⟩ r w':=by
 have hmf:=zda;go_enter Try.func79,Try.ntmps79
 go_wp2
 go_ret
 refine ⟨_,rfl,(Ext.refl w).alloc _,_,_,rfl,enters_add,fun l g wa hx ho hk ha=>?_⟩;have q1:=hx.cell (p:=⟨w.heap.size,0,none⟩) (v:=I n) (by simp);refine (znJ l g _ _ n wa ho ha q1 (zcL q1) hn (hk.at ha).2.2).mono fun e w' h=>?_;rw [zgT,if_neg (by simpa using ha)];by_cases hs:-1073741824<=num l (at1 l a)+n/\num l (at1 l a)+n<=1073741824
 ·rw [if_pos hs] at h;rw [if_neg (by simpa using hs)]; exact h
 ·rw [if_neg hs] at h;rw [if_pos hs]; exact h

theorem zkD (a o n:Int) (w:World):Calls Try.prog 80 #[I o] w fun e w'=>∃ r,e=.returned r/\Ext w w'/\zfz ⟨6,a,o,n⟩ r w':=by
 have hmf:=zda;go_enter Try.func80,Try.ntmps80
 go_wp2
 go_ret
 refine ⟨_,rfl,(Ext.refl w).alloc _,_,_,rfl,enters_swap,fun l g wa hx ho hk ha=>?_⟩;have q1:=hx.cell (p:=⟨w.heap.size,0,none⟩) (v:=I o) (by simp);refine (zmQ l g _ _ o wa ho ha q1 (zcL q1)).mono fun e w' h=>?_;rw [zfP,if_neg (by simpa using ha)];by_cases hs:at1 l o < l.length
 ·rw [if_pos hs] at h;rw [if_neg (by simpa using hs)]; exact h
 ·rw [if_neg hs] at h;rw [if_pos hs]; exact h

open Go.RowKit Go.Mk

theorem zki (k a o n:Int) (w:World) (hc:wrongCl ⟨k,a,o,n⟩=0):Calls Try.prog 58 #[.agg #[I k,I a,I o,I n]] w fun e w'=>∃ r,e=.returned r/\Ext w w'/\zfY ⟨k,a,o,n⟩ r w':=by
 obtain ⟨hk,hn⟩:=zeN hc;have HN:Hid (k=1∨k=4->-1073741824<=n/\n<=1073741824):=hn;clear hc hn;have he0:Ext w (w.alloc (.cells #[I k,I a,I o,I n] 33)):=(Ext.refl w).alloc _;rcases hk with rfl | rfl | rfl | rfl | rfl | rfl
 ·go_enter Try.func58,Try.ntmps58
  go_wp2_with fail
  refine (zlR a o n _).mono ?_;rintro e w1 ⟨r,rfl,he,hd⟩
  go_wp2
  go_ret
  exact ⟨_,rfl,he0.trans he,hd⟩
 ·go_enter Try.func58,Try.ntmps58
  go_wp2_with fail
  refine (zd2 ⟨2,a,o,n⟩ _ _ (zm1 a o n _) (fun l ha=>by rw [zhv,if_pos ha])).mono ?_;rintro e w1 ⟨r,rfl,he,hd⟩
  go_wp2
  go_ret
  exact ⟨_,rfl,he0.trans he,hd⟩
 ·go_enter Try.func58,Try.ntmps58
  go_wp2_with fail
  refine (zd2 ⟨3,a,o,n⟩ _ _ (zlJ a o n _) (fun l ha=>by rw [zgu,if_pos ha])).mono ?_;rintro e w1 ⟨r,rfl,he,hd⟩
  go_wp2
  go_ret
  exact ⟨_,rfl,he0.trans he,hd⟩
 ·have q1:(w.alloc (.cells #[I 4,I a,I o,I n] 33)).cell? ⟨w.heap.size,1,none⟩=some (I a):=by simp
  have q3:(w.alloc (.cells #[I 4,I a,I o,I n] 33)).cell? ⟨w.heap.size,3,none⟩=some (I n):=by simp
  have HQ1:Hid _:=q1;have HQ3:Hid _:=q3;clear q1 q3;go_enter Try.func58,Try.ntmps58
  go_wp2_with fail
  refine zaR [none,none,none,none,some (.inr (zfz ⟨4,a,o,n⟩)),some (.inr (zfY ⟨4,a,o,n⟩)),none] (by kernel_rfl) (by kernel_rfl) ?_ ?_
  ·exact ⟨trivial,trivial,trivial,trivial,zjC _,zjL _,trivial,trivial⟩
  (refine zaj (fun K hK=>?_); go_simp; refine hK _ ?_; clear hK K)
  refine zax (I a) rfl (fun w' hw'=>by have t1:=hw'.cell HQ1.o; go_simp) ?_;(refine zaj (fun K hK=>?_); go_simp; refine hK _ ?_; clear hK K)
  refine zax (I n) rfl (fun w' hw'=>by have t1:=hw'.cell HQ3.o; go_simp) ?_;refine za0 _ rfl (fun w' hw' _=>?_) (fun v30=>?_)
  ·have hg:=zlg a o n w' (HN.o (by simp));unfold zaI;go_simp
   exact ⟨Ext.refl _,hg⟩
  refine za0 _ rfl (fun w' hw' hk=>?_) (fun v31=>?_)
  ·have h7:zfz ⟨4,a,o,n⟩ v30 w':=hk 30 (by decide);have hg:=zd2 ⟨4,a,o,n⟩ v30 w' h7 (fun l ha=>by rw [zgT,if_pos ha]);clear hk h7;unfold zaI;go_simp
   exact ⟨Ext.refl _,hg⟩
  (refine zaj (fun K hK=>?_); go_simp; refine hK _ ?_; clear hK K)
  refine zaL ?_;intro w2 he2 hF;have hd:zfY ⟨4,a,o,n⟩ v31 w2:=hF 31;go_wp2
  go_ret
  exact ⟨_,rfl,he0.trans he2,hd⟩
 ·go_enter Try.func58,Try.ntmps58
  go_wp2
  go_ret
  exact ⟨_,rfl,he0,zkF a o n _⟩
 ·have q1:(w.alloc (.cells #[I 6,I a,I o,I n] 33)).cell? ⟨w.heap.size,1,none⟩=some (I a):=by simp
  have q3:(w.alloc (.cells #[I 6,I a,I o,I n] 33)).cell? ⟨w.heap.size,2,none⟩=some (I o):=by simp
  have HQ1:Hid _:=q1;have HQ3:Hid _:=q3;clear q1 q3;go_enter Try.func58,Try.ntmps58
  go_wp2_with fail
  refine zaR [none,none,none,none,some (.inr (zfz ⟨6,a,o,n⟩)),some (.inr (zfY ⟨6,a,o,n⟩)),none] (by kernel_rfl) (by kernel_rfl) ?_ ?_
  ·exact ⟨trivial,trivial,trivial,trivial,zjC _,zjL _,trivial,trivial⟩
  (refine zaj (fun K hK=>?_); go_simp; refine hK _ ?_; clear hK K)
  refine zax (I a) rfl (fun w' hw'=>by have t1:=hw'.cell HQ1.o; go_simp) ?_;(refine zaj (fun K hK=>?_); go_simp; refine hK _ ?_; clear hK K)
  refine zax (I o) rfl (fun w' hw'=>by have t1:=hw'.cell HQ3.o; go_simp) ?_;refine za0 _ rfl (fun w' hw' _=>?_) (fun v30=>?_)
  ·have hg:=zkD a o n w';unfold zaI;go_simp
   exact ⟨Ext.refl _,hg⟩
  refine za0 _ rfl (fun w' hw' hk=>?_) (fun v31=>?_)
  ·have h7:zfz ⟨6,a,o,n⟩ v30 w':=hk 38 (by decide);have hg:=zd2 ⟨6,a,o,n⟩ v30 w' h7 (fun l ha=>by rw [zfP,if_pos ha]);clear hk h7;unfold zaI;go_simp
   exact ⟨Ext.refl _,hg⟩
  (refine zaj (fun K hK=>?_); go_simp; refine hK _ ?_; clear hK K)
  refine zaL ?_;intro w2 he2 hF;have hd:zfY ⟨6,a,o,n⟩ v31 w2:=hF 39;go_wp2
  go_ret
  exact ⟨_,rfl,he0.trans he2,hd⟩

def zox (base:Nat) (l:List (Int×Int)) (c:Cl) (r:Value) (w:World):Prop:=∃ u,r=.tuple #[u,(za5 l c).2.val]/\Has base w u (za5 l c).1

theorem znl (v:Value) (l:List (Int×Int)) (k a o n:Int) (w:World) (hv:zan w v l) (hl:Okw l) (hc:wrongCl ⟨k,a,o,n⟩=0):Calls Try.prog 40 #[v,.agg #[I k,I a,I o,I n]] w fun e w'=>∃ r,e=.returned r/\Ext w w'/\zox w.heap.size l ⟨k,a,o,n⟩ r w':=by
 have he0:Ext w ((w.alloc (.cells #[I k,I a,I o,I n] 33)).alloc (.cells #[I 0,I 0] 38)):=((Ext.refl w).alloc _).alloc _
 have hbx:((w.alloc (.cells #[I k,I a,I o,I n] 33)).alloc (.cells #[I 0,I 0] 38)).heap[w.heap.size+1]?=some (.cells #[I 0,I 0] 38):=by
  have:=heap_alloc_new (w.alloc (.cells #[I k,I a,I o,I n] 33)) (.cells #[I 0,I 0] 38);simpa using this
 have HBX:Hid _:=hbx;clear hbx;go_enter Try.func40,Try.ntmps40
 go_wp2_with fail
 refine (zki k a o n _ hc).mono ?_;rintro e w1 ⟨r,rfl,e1,F,caps,rfl,hE,hF⟩
 have HF:Hid _:=hF;clear hF;unfold zdp at hE;have hw1:Ext w w1:=he0.trans e1;go_wp2_with fail
 refine (zms v l w1 (hv.ext hw1) (by have:=hl.len; omega)).mono ?_;rintro e w2 ⟨rfl,ho,e2⟩
 have hs1:w.heap.size+1 < w1.heap.size:=by have:=e1.size; simp at this; omega
 generalize hgs:w1.heap.size=g at *;go_wp2_with fail
 refine (HF.o l g w2 e2 ho hl).mono ?_;rintro e w3 ⟨u,x,m,lo,rfl,hov,hu,hgr⟩
 have hb3:w3.heap[w.heap.size+1]?=some (.cells #[I 0,I 0] 38):=by
  rw [hgr.block (w.heap.size+1) (by have:=e2.size; omega) (fun e=>by have e2:w.heap.size+1=g:=Option.some.inj e; omega),e2.block _ (by omega),e1.block _ (by simp)];exact HBX.o
 obtain ⟨c0,c1,f0,f1⟩:=zaC hb3 (Ext.refl w3);have hw3:Ext w w3:=(hw1.trans e2).grown hgr (fun k hk=>by cases hk; omega);clear hE;generalize hD:za5 l ⟨k,a,o,n⟩=D at *;have HD:Hid (za5 l ⟨k,a,o,n⟩=D):=hD;clear hD;obtain ⟨D1,D2,D3⟩:=D;go_wp2
 try simp only [Exit.inBlock,Exit.then]
 refine bodyPost_ret (by simp [results,Try.results40,go_sem,c0,c1]; rfl) rfl ?_;have hne:=zfb hov hb3 (by decide);refine ⟨_,rfl,(hw3.setCell (Nat.le_succ _) _).setCell (Nat.le_succ _) _,u,?_,?_⟩
 ·rw [HD.o]
 ·rw [HD.o]; exact Has.low ⟨x,m,lo,zbP (zbP hov hne _ _) hne _ _,hu⟩ (by omega)

theorem zn5 (v:Value) (l:List (Int×Int)) (k a o n:Int) (w:World) (hv:zan w v l) (hl:Okn l) (hc:wrongCl ⟨k,a,o,n⟩=0):Calls Try.prog 40 #[v,.agg #[I k,I a,I o,I n]] w fun e w'=>∃ r,e=.returned r/\Ext w w'/\zox w.heap.size l ⟨k,a,o,n⟩ r w':=znl v l k a o n w hv hl.w hc

open Go.RowKit Go.Mk

open Go.RowKit Go.Mk

theorem znD (v:Value) (xs:List Int) (w:World) (hv:zbo w v xs) (hw:xs.length=11/\0<=xs.getD 0 0/\xs.getD 0 0<=5) :
  Calls Try.prog 26 #[v] w fun e w'=>∃ r,e=.returned r/\Ext w w'/\zan w' r (zaz xs (xs.getD 0 0).toNat):=by
 obtain ⟨hl,x0,x5⟩:=id hw;obtain ⟨i0,hi,hz0,hz1,hz2⟩:=info_parts Try.infoWrite2;have he:zek xs=xs.getD 0 0:=by unfold zek; rw [if_neg (by omega)]; omega
 have H3:Hid (∀ k,k < 11->∃ ao cap,v=.slice ao 11 cap/\11<=cap/\cap<=maxLen/\∃ b off,ao=some ⟨b,off,none⟩/\w.cell? ⟨b,off+k,none⟩=some (I (xs.getD k 0))):=fun k hk=>by
  obtain ⟨ao,cap,h1,h2,h3,h4⟩:=hv.form;rw [hl] at h1 h2 h4;exact ⟨ao,cap,h1,h2,h3,h4 k hk⟩
 obtain ⟨ao,cap,rfl,hcap,hm,b,off,rfl,_⟩:=H3.o 0 (by omega)
 have HC:Hid (∀ k,k < 11->w.cell? ⟨b,off+k,none⟩=some (I (xs.getD k 0))):=fun k hk=>by
  obtain ⟨ao,cap',h1,_,_,b',off',h2,h3⟩:=H3.o k hk;rw [h2] at h1;simp only [Value.slice.injEq,Option.some.injEq,Addr.mk.injEq,and_true] at h1;obtain ⟨⟨rfl,rfl⟩,_,rfl⟩:=h1;exact h3
 clear H3;unfold maxLen at hm;generalize hX:xs.getD 0 0=x at *;clear hX hw hl;go_enter Try.func26,Try.ntmps26
 go_wp2_with fail
 refine Calls.same (zjl _ xs _ hv) ?_;rw [he];clear he hv;go_wp2_with fail
 go_loopw [3,7] (fun o i wr=>∃ k:Nat,(k:Int)<=x/\i=I k/\wr.ownsRow w.heap.size 74 2 o k (zat (zaz xs k))/\Ext w wr) (fun _ i _=>x.toNat - (intOf i).toNat)
 case atStart=>exact ⟨0,by omega,rfl,World.ownsRow_nil _ _ _ _,Ext.refl w⟩
 case round =>
  obtain ⟨k,hk,rfl,ho,he⟩:=hrel;by_cases hlt:(k:Int) < x
  ·have c1:=he.cell (HC.o (1+2 * k) (by omega));have c2:=he.cell (HC.o (1+2 * k+1) (by omega));have HS:Hid (zaz xs (k+1)=zaz xs k++[(xs.getD (1+2 * k) 0,xs.getD (1+2 * k+1) 0)]):=zgg xs k;generalize xs.getD (1+2 * k) 0=p at *;generalize xs.getD (1+2 * k+1) 0=q at *;have a1:(0:Int)<=1+2 * (k:Int):=by omega
   have a2:1+2 * (k:Int) < 11:=by omega
   have a3:(1+2 * (k:Int)).toNat=1+2 * k:=by omega
   have a4:(0:Int)<=1+2 * (k:Int)+1:=by omega
   have a5:1+2 * (k:Int)+1 < 11:=by omega
   have a6:(1+2 * (k:Int)+1).toNat=1+2 * k+1:=by omega
   go_wp2_with fail
   refine zau 13 [none,none,none,some (.inl (I (1+2 * (k:Int)))),none,none,none,none,some (.inl (I (1+2 * (k:Int)+1))),none,none,none,some (.inr fun v w=>zan w v [(p,q)])] (by kernel_rfl) (by kernel_rfl) ?_ ?_
   ·exact ⟨trivial,trivial,trivial,trivial,trivial,trivial,trivial,trivial,trivial,trivial,trivial,trivial,zfG _,trivial⟩
   iterate 3 (refine zaj (fun K hK=>?_); go_simp; refine hK _ ?_; clear hK K)
   refine zdd _ rfl (fun w' hw' _=>?_) ?_
   ·have hg:=zhy (zgf k w' (by omega) (by omega));unfold zaI;go_simp
    exact ⟨Ext.refl _,hg⟩
   (refine zaj (fun K hK=>?_); go_simp; refine hK _ ?_; clear hK K)
   refine zax (I p) rfl (fun w' hw'=>by have:=hw'.cell c1; go_simp) ?_;iterate 2 (refine zaj (fun K hK=>?_); go_simp; refine hK _ ?_; clear hK K)
   refine zdd _ rfl (fun w' hw' _=>?_) ?_
   ·have hg:=zhy (zhk k w' (by omega) (by omega));unfold zaI;go_simp
    exact ⟨Ext.refl _,hg⟩
   (refine zaj (fun K hK=>?_); go_simp; refine hK _ ?_; clear hK K)
   refine zax (I q) rfl (fun w' hw'=>by have:=hw'.cell c2; go_simp) ?_;(refine zaj (fun K hK=>?_); go_simp; refine hK _ ?_; clear hK K)
   refine za0 _ rfl (fun w' hw' _=>?_) (fun v22=>?_)
   ·unfold zaI;go_simp
    exact ⟨(Ext.refl _).alloc _,zcf _ _ _ 1 rfl rfl (by decide)⟩
   refine zaL ?_;intro w2 he2 hF;have h22:zan w2 v22 [(p,q)]:=hF 22;clear hF c1 c2;refine zav _ rfl (.tmp 10) (.tmp 22) 26 rfl w.heap.size 74 i0 _ 2 16 zfr hi hz0 hz1 hz2 rfl (by decide) u3 k (zat (zaz xs k)) rfl ?_ v22 rfl 1 _ h22 (zbp _) (by omega) (by decide) ?_ ?_
   ·exact zaw ho he2
   ·exact Nat.le_trans he.size he2.size
   intro o' w3 ho3 hg3;have he4:Ext w w3:=(he.trans he2).grown hg3 (fun j hj=>(ho.lt j hj).1);clear hg3 he2 h22;go_wp2
   go_roundw
   case rel =>
    refine ⟨k+1,by omega,by go_num,?_,he4⟩;rw [HS.o,za4];exact ho3
   case measure=>simp [intOf]; omega
  ·go_wp2
   go_ret
   refine ⟨_,rfl,he,?_⟩;rw [show x.toNat=k by omega];exact zar ho
open Go.RowKit Go.Mk

theorem zhX (x0 x1 x2 x3:Value) (w:World):(Instr.field 30 (.agg #[x0,x1,x2,x3]) 0).run Try.prog w=.ok x0 w:=by kernel_rfl

theorem zkV:zjn:=fun m c u a p box plan cl w A hx hl=>by
 unfold zba
 have HS:=zhd hl.small.1
 have HST:=zhd (zdB.2 ⟨hx.cells.o,hx.undo.o,hx.answers.o,hx.past.o⟩)
 have HQ:=zhd (And.intro ((zbe m.store.cells m.store.undo).trans hl.cells) hl.most)
 obtain ⟨ca,cc,ua,uc,aa,ac,pa,pc,xa,xc,la,lc,ka,kc,rfl,rfl,rfl,rfl,rfl,rfl,rfl⟩:=hx.slices
 clear hx hl
 obtain ⟨⟨sc,su,sa,sp⟩,⟨gen,bl,busy,⟨nc,nt,⟨nk,na,no,nn⟩⟩,pl,⟨se,sn⟩⟩,up,pause,falls,cls⟩:=m
 have EW:=zhd (Ext.refl w)
 go_enter Try.func14,Try.ntmps14
 go_wp2_with (with_reducible refine zT ?_)
 refine zal rfl 43 (.tmp 0) rfl #[.slice ca sc.length cc,.slice ua su.length uc,.slice aa sa.length ac,.slice pa sp.length pc,I gen,.slice xa bl.length xc,.bool busy,I nc,I nt,I nk,I na,I no,I nn,.slice la pl.length lc,I se,I sn,.bool up,I pause,I falls,.slice ka cls.length kc] rfl (fun b0 w1_ M1=>?_)
 have zab:=zmb M1
 replace EW:=zet EW M1
 go_wp2_with (with_reducible refine zT ?_)
 refine zcz rfl 30 (.tmp 3) rfl b0 0 rfl zab [.slice ca sc.length cc,.slice ua su.length uc,.slice aa sa.length ac,.slice pa sp.length pc] rfl zdh zhU (fun v4 H_v4=>?_)
 go_wp2_with fail
 rw [H_v4.o]
 clear H_v4
 refine (zk6 (zmS _ _ _ _ ⟨sc,su,sa,sp⟩ w1_ (zkT _ _ _ _ EW.o HST.o) HS.o)).to fun r w2 e2 hr=>?_
 obtain ⟨c5,u5,a5,p5,rfl,hq⟩:=hr
 have hi:zbo w2 c5 (zao sc su):=(zdB.1 hq).1
 have hf:=zhX c5 u5 a5 p5 w2
 clear hq
 have e3:=EW.o.trans e2
 clear EW zab
 go_wp2_with fail
 clear hf
 refine (znD _ _ _ hi HQ.o).mono ?_
 rintro e w3 ⟨r,rfl,e4,hr⟩
 go_wp2
 go_ret
 exact ⟨_,rfl,e3.trans e4,hr⟩

open Go.RowKit Go.Mk

theorem zjg (n:Nat):zat (List.replicate n (0,0))=List.replicate (n * 2) (I 0):=by
 induction n with
 | zero=>rfl
 | succ n ih =>
  rw [List.replicate_succ,show (n+1) * 2=n * 2+1+1 by omega,List.replicate_succ,List.replicate_succ,<- ih]
  rfl

theorem zou (n:Nat):(madeCells #[I 0,I 0] (n * 2)).toList=zat (List.replicate n (0,0)):=by
 rw [zjg,List.eq_replicate_iff]
 refine ⟨by rw [Array.length_toList,size_madeCells],fun b hb=>?_⟩
 simp only [madeCells,Array.toList_map,List.mem_map] at hb
 obtain ⟨i,_,rfl⟩:=hb
 have:i % #[I 0,I 0].size=0∨i % #[I 0,I 0].size=1:=by simp; omega
 rcases this with h | h <;> rw [h] <;> rfl

def ze0 (l:List (Int×Int)) (n:Nat):List (Int×Int):=l++List.replicate (n - l.length) (0,0)

theorem zjd {l:List (Int×Int)} {n:Nat} (h:l.length<=n):(ze0 l n).length=n:=by simp [ze0]; omega

theorem zl6 {l:List (Int×Int)} {n:Nat} (h:l.length < n) (p:Int×Int):(ze0 l n).set l.length p=ze0 (l++[p]) n:=by
 unfold ze0
 rw [List.set_append_right _ _ (Nat.le_refl _),Nat.sub_self,show n - l.length=(n - (l++[p]).length)+1 by simp; omega,List.replicate_succ]
 simp

theorem zmp {l:List (Int×Int)} {n:Nat} (h:l.length=n):ze0 l n=l:=by simp [ze0,h]

theorem zk0 (v:Value) (l:List Rq) (w:World) (hv:zln w v l) (hl:∀ r ∈ l,wrongCl r.call=0) (hr:l.length * 48<=140737488355328) :
  Calls Try.prog 21 #[v] w fun e w'=>∃ r,e=.returned r/\Ext w w'/\∃ x y,r=.tuple #[x,y]/\zan w' x (allCl (l.map Rq.call)).1/\zan w' y (allCl (l.map Rq.call)).2:=by
 obtain ⟨i0,hi,hz0,hz1,hz2⟩:=info_parts Try.infoReply;obtain ⟨ao,cap,rfl,h1,h2,h3⟩:=hv.form;unfold maxLen at h2
 have HOK:Hid (∀ k,Okn (allCl ((l.map Rq.call).take k)).1/\(allCl ((l.map Rq.call).take k)).2.length=min k l.length):=fun k=>by
  have:=zkL (cs:=l.map Rq.call) (fun c hc=>by obtain ⟨r,hr,rfl⟩:=List.mem_map.1 hc; exact hl r hr) k;simpa using this
 have H3:Hid (∀ k r,l[k]?=some r->∃ b off,ao=some ⟨b,off,none⟩/\w.cell? ⟨b,off+k * 6,none⟩=some (I r.client)/\w.cell? ⟨b,off+k * 6+1,none⟩=some (I r.token)/\w.cell? ⟨b,off+k * 6+2,none⟩=some (I r.call.kind) /\
   w.cell? ⟨b,off+k * 6+3,none⟩=some (I r.call.name)/\w.cell? ⟨b,off+k * 6+4,none⟩=some (I r.call.other)/\w.cell? ⟨b,off+k * 6+5,none⟩=some (I r.call.n)):=h3
 clear h3 hv;go_enter Try.func21,Try.ntmps21
 go_wp2_with (at_make; refine wpList_make_full _ rfl _ _ 47 rfl w.heap.size 38 i0 (.agg #[.int .i64 0,.int .i64 0]) 2 zg5 hi hz0 hz1 .i64 .i64 _ _ l.length rfl rfl rfl rfl (by rw [hz2]; omega) (by unfold maxLen; omega) (Nat.le_refl _) ?_; intro w1 hown hgrow)
 have he1:Ext w w1:=(Ext.refl w).grown hgrow (fun k hk=>by cases hk)
 have hown1:w1.ownsRow w.heap.size 38 2 (.slice (some ⟨w.heap.size,0,none⟩) l.length l.length) l.length (zat (ze0 [] l.length)):=by
  have h:=hown;rw [show (Value.agg #[Value.int IntKind.i64 0,Value.int IntKind.i64 0]).cells=#[I 0,I 0] from rfl,zou] at h;exact h
 have hg1:w.heap.size < w1.heap.size:=(hown1.lt _ rfl).2;clear hown hgrow;generalize hG:w.heap.size=g at *;have HG:Hid (w.heap.size=g):=hG;clear hG;go_loopw [4,13] (fun nv i wr=>∃ k:Nat,k<=l.length/\i=I k/\wr.ownsRow g 38 2 (.slice (some ⟨g,0,none⟩) l.length l.length) l.length (zat (ze0 (allCl ((l.map Rq.call).take k)).2 l.length))/\Has (g+1) wr nv (allCl ((l.map Rq.call).take k)).1/\g+1<=wr.heap.size/\Ext w wr) (fun _ i _=>l.length - (intOf i).toNat)
 case atStart=>exact ⟨0,by omega,rfl,hown1,Has.nil _ _,hg1,he1⟩
 case round =>
  obtain ⟨k,hk,rfl,ho,hh,hs,he⟩:=hrel;clear hown1;obtain ⟨okk,lenk⟩:=HOK.o k;by_cases hlt:k < l.length
  ·have hgk:l[k]?=some l[k]:=List.getElem?_eq_getElem hlt;obtain ⟨b,off,rfl,d0,d1,d2,d3,d4,d5⟩:=H3.o k _ hgk;replace d0:=he.cell d0;replace d1:=he.cell d1;replace d2:=he.cell d2;replace d3:=he.cell d3;replace d4:=he.cell d4;replace d5:=he.cell d5;have hwc:wrongCl l[k].call=0:=hl _ (List.getElem_mem hlt);have HT:Hid (allCl ((l.map Rq.call).take (k+1))=zdn (allCl ((l.map Rq.call).take k)) l[k].call):=zfS (by simp [hgk]);generalize l[k]=rq at *;obtain ⟨cl,tk,kd,nm,ot,nn⟩:=rq;simp only [] at d0 d1 d2 d3 d4 d5 hwc;generalize allCl ((l.map Rq.call).take k)=A at *;obtain ⟨A1,A2⟩:=A;simp only [] at ho hh okk lenk;have hlen2:A2.length=k:=by omega
   go_wp2_with fail
   have e0:Ext wr (wr.alloc (.cells #[I cl,I tk,I kd,I nm,I ot,I nn] 35)):=(Ext.refl wr).alloc _;refine (zn5 u4 A1 kd nm ot nn _ (hh.writes.ext e0) okk hwc).mono ?_;rintro e w2 ⟨r,rfl,e2,u,rfl,hu⟩
   have hu2:=hu.low (b2:=g+1) (by simp; omega);have ho2:=zaw ho (e0.trans e2);have hgl:g < w2.heap.size:=(ho2.lt _ rfl).2;have f1:w2.frozen? ⟨g,k * 2,none⟩=false:=ho2.frozenAt _;have f2:w2.frozen? ⟨g,k * 2+1,none⟩=false:=ho2.frozenAt _;have c1:=ho2.cellAt (k * 2) (by omega);have c2:=ho2.cellAt (k * 2+1) (by omega);have hfl:(ze0 A2 l.length).length=l.length:=zjd (by omega);rw [(zez (ze0 A2 l.length) k (by omega)).1] at c1;rw [(zez (ze0 A2 l.length) k (by omega)).2] at c2;generalize ((ze0 A2 l.length).getD k (0,0)).1=z1 at *;generalize ((ze0 A2 l.length).getD k (0,0)).2=z2 at *;generalize hD:za5 A1 ⟨kd,nm,ot,nn⟩=D at *;have HD:Hid (za5 A1 ⟨kd,nm,ot,nn⟩=D):=hD;clear hD;obtain ⟨D1,D2,D3⟩:=D;clear d0 d1 d2 d3 d4 d5;have he3:Ext w w2:=he.trans (e0.trans e2);have hs3:g+1<=w2.heap.size:=hgl;clear e0 e2;go_wp2
   go_roundw
   case rel =>
    have s1:=ho2.stored (k * 2) (I D2);have s2:=s1.1.stored (k * 2+1) (I D3);have hset:=zfM (ze0 A2 l.length) k (D2,D3)
    have hfs:(ze0 A2 l.length).set k (D2,D3)=ze0 (A2++[(D2,D3)]) l.length:=by
     have:=zl6 (l:=A2) (n:=l.length) (by omega) (D2,D3);rwa [hlen2] at this
    refine ⟨k+1,by omega,by go_num,?_,?_,by simpa using hs3,(he3.setCell (by rw [HG.o]; exact Nat.le_refl _) _).setCell (by rw [HG.o]; exact Nat.le_refl _) _⟩
    ·rw [HT.o];simp only [zdn];rw [HD.o,<- hfs,hset];exact s2.1
    ·rw [HT.o];simp only [zdn];rw [HD.o];exact (hu2.set (Nat.lt_succ_self g) _ _).set (Nat.lt_succ_self g) _ _
   case measure=>simp [intOf]; omega
  ·go_wp2
   go_ret2
   have hkl:k=l.length:=by omega
   subst hkl;rw [List.take_of_length_le (by simp)] at ho hh lenk;rw [zmp (by omega)] at ho;exact ⟨_,rfl,he,_,_,rfl,hh.writes,zar ho⟩

end Go.Proofs.Ytdmipnnfoolelaf

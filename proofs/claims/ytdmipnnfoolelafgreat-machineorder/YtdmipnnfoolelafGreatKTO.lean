/- Texts of the proof, merged: R1 R2 R3 R4 R5 R6 R7 D4 D5. -/
import Derived.Test.YtdmipnnfoolelafGreatKTA
import Derived.Test.YtdmipnnfoolelafGreatKTH
import Derived.Test.YtdmipnnfoolelafGreatKTC
set_option maxHeartbeats 2000000
set_option maxRecDepth 100000

namespace Go.Proofs.YtdmipnnfoolelafGreat
open Go.RowKit Go.Mk

def zcH (l:List (Int×Int)) (name n:Int):List (Int×Int):=l.map fun p=>if p.1=name then (p.1,n) else p

theorem zpF (l:List (Int×Int)) (p:Int×Int) (name n:Int):zcH (l++[p]) name n=zcH l name n++[if p.1=name then (p.1,n) else p]:=by simp [zcH]

theorem zb0 (l:List (Int×Int)) (name n:Int):(zcH l name n).length=l.length:=by simp [zcH]

theorem zpS {l:List (Int×Int)} {name:Int} (ha:¬ at1 l name < l.length) (n:Int):zcH l name n=l:=by
 have e:at1 l name=l.length:=by have:=zl3 l name; omega
 refine zm8 (zb0 _ _ _) fun j hj=>?_
 rw [zb0] at hj
 have hn:(l.getD j (0,0)).1≠name:=ze0 (by omega)
 simp [zcH,List.getD_eq_getElem?_getD,hj] at hn ⊢
 intro h
 exact absurd h hn

def zsH (l:List (Int×Int)) (name:Int):Int:=if at1 l name < l.length then num l (at1 l name) else 0

def isR (l:List (Int×Int)) (name:Int):Bool:=decide (at1 l name < l.length)

def ziN (l:List (Int×Int)) (name:Int) (k:Nat):Bool:=decide (at1 l name < k)

theorem ze7 {l:List (Int×Int)} {name:Int} (h:at1 l name < l.length):zsH l name=num l (at1 l name):=if_pos h

theorem zgr {l:List (Int×Int)} {name:Int} (h:at1 l name < l.length):isR l name=true:=decide_eq_true h

theorem zhi {l:List (Int×Int)} {name:Int} (h:¬ at1 l name < l.length):zsH l name=0:=if_neg h

theorem zh4 {l:List (Int×Int)} {name:Int} (h:¬ at1 l name < l.length):isR l name=false:=decide_eq_false h

theorem zey (v:Value) (l:List (Int×Int)) (name:Int) (w:World) (hv:zax w v l) :
  Calls Tryz.prog 106 #[v,I name] w fun e w'=>e=.returned (.tuple #[I (zsH l name),.bool (isR l name)])/\Ext w w':=by
 obtain ⟨ao,cap,rfl,h1,h2,h3⟩:=hv.form;unfold maxLen at h2;clear hv;go_enter Tryz.func106,Tryz.ntmps106
 go_wp2
 go_loopw [10] (fun i wr=>∃ k:Nat,k<=l.length/\i=I k/\(∀ j,j < k->(l.getD j (0,0)).1≠name)/\Ext w wr) (fun i _=>l.length - (intOf i).toNat)
 case atStart=>exact ⟨0,by omega,rfl,fun j hj=>by omega,Ext.refl w⟩
 case round =>
  obtain ⟨k,hk,rfl,hf,he⟩:=hrel;have HF:Hid (∀ j,j < k->(l.getD j (0,0)).1≠name):=hf;clear hf;by_cases hlt:k < l.length
  ·obtain ⟨b,off,rfl,hc1,hc2⟩:=h3 k hlt;clear h3;have hd1:=he.cell hc1;have hd2:=he.cell hc2;clear hc1 hc2;generalize hp:l.getD k (0,0)=p at hd1 hd2;have HP:Hid (l.getD k (0,0)=p):=hp;clear hp;obtain ⟨at_,n⟩:=p;simp only [] at hd1 hd2;by_cases hn:at_=name
   ·have hb:(at_ == name)=true:=by simp [hn]
    have HN:Hid (at_=name):=hn;clear hn;go_wp2
    go_ret2
    have:=zlL hlt (by rw [HP.o]; exact HN.o) HF.o;refine ⟨?_,he.alloc _⟩;have hnum:num l k=n:=by unfold num; rw [HP.o]
    rw [ze7 (by omega),zgr (by omega),this,hnum];rfl
   ·have hb:(at_ == name)=false:=by simpa using hn
    have HN:Hid (at_≠name):=hn;clear hn;go_wp2
    go_roundw
    case rel =>
     refine ⟨k+1,by omega,by go_num,fun j hj=>?_,he.alloc _⟩;by_cases hjk:j < k
     ·exact HF.o j hjk
     ·rw [show j=k by omega,HP.o]; exact HN.o
    case measure=>simp [intOf]; omega
  ·go_wp2
   go_ret2
   have:=zia (l:=l) (name:=name) (fun j hj=>HF.o j (by omega));refine ⟨?_,he⟩;rw [zhi (by omega),zh4 (by omega)];rfl

def zmj (l:List (Int×Int)) (name n:Int):List (Int×Int):=zcH l name n++if at1 l name < l.length then [] else [(name,n)]

theorem zgK {l:List (Int×Int)} {name n:Int} (h:at1 l name < l.length):zmj l name n=zcH l name n:=by unfold zmj; rw [if_pos h,List.append_nil]

theorem zlg {l:List (Int×Int)} {name n:Int} (h:¬ at1 l name < l.length):zmj l name n=zcH l name n++[(name,n)]:=by unfold zmj; rw [if_neg h]

theorem zgI (v:Value) (l:List (Int×Int)) (name n:Int) (w:World) (hv:zax w v l) (hr:(l.length+1) * 16<=140737488355328) :
  Calls Tryz.prog 108 #[v,I name,I n] w fun e w'=>∃ r,e=.returned r/\Ext w w'/\Has w.heap.size w' r (zmj l name n):=by
 obtain ⟨i0,hi,hz0,hz1,hz2⟩:=info_parts Tryz.infoWrite2;obtain ⟨ao,cap,rfl,h1,h2,h3⟩:=hv.form;unfold maxLen at h2;clear hv;go_enter Tryz.func108,Tryz.ntmps108
 go_wp2
 go_loopw [7,8,13] (fun o d i wr=>∃ k:Nat,k<=l.length/\i=I k/\d=.bool (ziN l name k)/\wr.ownsRow w.heap.size 111 2 o k (zaB (zcH (l.take k) name n))/\Ext w wr) (fun _ _ i _=>l.length - (intOf i).toNat)
 case atStart=>exact ⟨0,by omega,rfl,by simp [ziN],World.ownsRow_nil _ _ _ _,Ext.refl w⟩
 case round =>
  obtain ⟨k,hk,rfl,rfl,ho,he⟩:=hrel;by_cases hlt:k < l.length
  ·obtain ⟨b,off,rfl,hc1,hc2⟩:=h3 k hlt;clear h3;have hd1:=he.cell hc1;have hd2:=he.cell hc2;clear hc1 hc2;have HB:Hid ((l.getD k (0,0)).1=name->at1 l name<=k):=fun h=>Nat.le_of_not_lt fun hlt=>ze0 hlt h;have HB2:Hid ((l.getD k (0,0)).1≠name->at1 l name≠k):=fun h e=>h (by rw [<- e]; exact zeP (by omega))
   have HT:Hid (zcH (l.take (k+1)) name n=zcH (l.take k) name n++[if (l.getD k (0,0)).1=name then ((l.getD k (0,0)).1,n) else l.getD k (0,0)]):=by
    unfold Hid;rw [List.take_add_one,List.getElem?_eq_getElem hlt,List.getD_eq_getElem?_getD,List.getElem?_eq_getElem hlt];exact zpF _ _ _ _
   generalize l.getD k (0,0)=p at *;obtain ⟨at_,m⟩:=p;simp only [] at hd1 hd2 HB HB2 HT;by_cases hn:at_=name
   ·have hb:(at_ == name)=true:=by simp [hn]
    have HN:Hid (at_=name):=hn;clear hn;go_wp2_with (at_builtin; refine zbG ?_)
    unfold Hid;refine zaA _ rfl (.tmp 23) (.tmp 25) 27 rfl w.heap.size 111 i0 (.agg #[.int .i64 0,.int .i64 0]) 2 16 zfG hi hz0 hz1 hz2 rfl (by decide) u7 k (zaB (zcH (l.take k) name n)) rfl ((ho.alloc _).alloc _) _ rfl 1 [I at_,I n] (zeD _ _ [(at_,n)] _ 1 rfl rfl (by decide)) (zbK [(at_,n)]) (by omega) (by decide) (by have:=he.size; simp; omega) ?_;intro o' w3 ho3 hg3;have he3:Ext w w3:=((he.alloc _).alloc _).grown hg3 (fun j hj=>(ho.lt j hj).1);clear hg3;go_wp2
    go_roundw
    case rel =>
     refine ⟨k+1,by omega,by go_num,?_,?_,he3⟩
     ·have:=HB.o HN.o;simp [ziN]; omega
     ·rw [HT.o,if_pos HN.o,zbl]; exact ho3
    case measure=>simp [intOf]; omega
   ·have hb:(at_ == name)=false:=by simpa using hn
    have HN:Hid (at_≠name):=hn;clear hn;go_wp2_with (at_builtin; refine zbG ?_)
    unfold Hid;refine zaA _ rfl (.tmp 23) (.tmp 25) 27 rfl w.heap.size 111 i0 (.agg #[.int .i64 0,.int .i64 0]) 2 16 zfG hi hz0 hz1 hz2 rfl (by decide) u7 k (zaB (zcH (l.take k) name n)) rfl ((ho.alloc _).alloc _) _ rfl 1 [I at_,I m] (zeD _ _ [(at_,m)] _ 1 rfl rfl (by decide)) (zbK [(at_,m)]) (by omega) (by decide) (by have:=he.size; simp; omega) ?_;intro o' w3 ho3 hg3;have he3:Ext w w3:=((he.alloc _).alloc _).grown hg3 (fun j hj=>(ho.lt j hj).1);clear hg3;go_wp2
    go_roundw
    case rel =>
     refine ⟨k+1,by omega,by go_num,?_,?_,he3⟩
     ·have:=HB2.o HN.o;simp [ziN]; omega
     ·rw [HT.o,if_neg HN.o,zbl]; exact ho3
    case measure=>simp [intOf]; omega
  ·have hkl:k=l.length:=by omega
   subst hkl;rw [List.take_of_length_le (Nat.le_refl _)] at ho;by_cases ha:at1 l name < l.length
   ·have hse:ziN l name l.length=true:=by simp [ziN,ha]
    go_wp2
    go_ret
    refine ⟨_,rfl,he,?_⟩;rw [zgK ha];exact ⟨_,_,_,ho,fun w2 h2=>zaC h2⟩
   ·have hse:ziN l name l.length=false:=by simp [ziN]; omega
    go_wp2_with (at_builtin; refine zbG ?_)
    unfold Hid;refine zaA _ rfl (.tmp 30) (.tmp 34) 27 rfl w.heap.size 111 i0 (.agg #[.int .i64 0,.int .i64 0]) 2 16 zfG hi hz0 hz1 hz2 rfl (by decide) u7 l.length (zaB (zcH l name n)) rfl (ho.alloc _) _ rfl 1 [I name,I n] (zcY (l:=[(name,n)]) _ _ 1 rfl rfl (by decide)) (zbK [(name,n)]) (by omega) (by decide) (by have:=he.size; simp; omega) ?_;intro o' w3 ho3 hg3;have he3:Ext w w3:=(he.alloc _).grown hg3 (fun j hj=>(ho.lt j hj).1);clear hg3;go_wp2
    go_ret
    refine ⟨_,rfl,he3,?_⟩;rw [zlg ha];rw [show zaB (zcH l name n)++[I name,I n]=zaB (zcH l name n++[(name,n)]) from (zbl _ [(name,n)]).symm] at ho3;exact ⟨_,_,_,ho3,fun w2 h2=>zaC h2⟩

open Go.RowKit Go.Mk

theorem zo9 {l:List (Int×Int)} {name:Int} (ha:¬ at1 l name < l.length) (n:Int):zmj l name n=l++[(name,n)]:=by rw [zlg ha,zpS ha]

theorem zfg (b:Nat) (v:Value) (e:Int) (w:World) (hb:w.cell? ⟨b,0,none⟩=some v) (hbl:b < w.heap.size) :
  Calls Tryz.prog 107 #[I e,.pointer (some ⟨b,0,none⟩)] w fun x w'=>x=.returned (.tuple #[v,.agg #[I e,I 0]])/\Ext w w':=by
 go_enter Tryz.func107,Tryz.ntmps107
 go_wp2
 go_returns
 exact ⟨rfl,(Ext.refl w).alloc _⟩

def zdt (l:List (Int×Int)) (a:Int):List (Int×Int):=(l.map fun p=>if p.1=a then l.getD (l.length - 1) (0,0) else p).take (l.length - 1)
def doR (l:List (Int×Int)) (c:Cl):List (Int×Int)×Rp :=
 if c.kind=5 then (l,⟨0,l.length⟩)
 else if c.kind=1 then
  if at1 l c.name < l.length then (zcH l c.name c.n,⟨0,num l (at1 l c.name)⟩)
  else if 5<=l.length then (l,⟨9,0⟩) else (l++[(c.name,c.n)],⟨0,0⟩)
 else if ¬ at1 l c.name < l.length then (l,⟨6,0⟩)
 else if c.kind=2 then (l,⟨0,num l (at1 l c.name)⟩)
 else if c.kind=3 then (zdt l c.name,⟨0,num l (at1 l c.name)⟩)
 else if c.kind=4 then
  if ¬ (-1073741824<=num l (at1 l c.name)+c.n/\num l (at1 l c.name)+c.n<=1073741824) then (l,⟨3,0⟩)
  else (zcH l c.name (num l (at1 l c.name)+c.n),⟨0,num l (at1 l c.name)+c.n⟩)
 else if ¬ at1 l c.other < l.length then (l,⟨6,0⟩)
 else (zcH (zcH l c.name (num l (at1 l c.other))) c.other (num l (at1 l c.name)),⟨0,num l (at1 l c.other)⟩)
theorem zlc (l:List (Int×Int)) (a o n:Int):doR l ⟨5,a,o,n⟩=(l,⟨0,l.length⟩):=rfl
theorem zif (l:List (Int×Int)) (a o n:Int):doR l ⟨1,a,o,n⟩=if at1 l a < l.length then (zcH l a n,⟨0,num l (at1 l a)⟩) else if 5<=l.length then (l,⟨9,0⟩) else (l++[(a,n)],⟨0,0⟩):=rfl
theorem zls (l:List (Int×Int)) (a o n:Int):doR l ⟨2,a,o,n⟩=if ¬ at1 l a < l.length then (l,⟨6,0⟩) else (l,⟨0,num l (at1 l a)⟩):=rfl
theorem zj1 (l:List (Int×Int)) (a o n:Int):doR l ⟨3,a,o,n⟩=if ¬ at1 l a < l.length then (l,⟨6,0⟩) else (zdt l a,⟨0,num l (at1 l a)⟩):=rfl
theorem zhZ (l:List (Int×Int)) (a o n:Int):doR l ⟨4,a,o,n⟩=if ¬ at1 l a < l.length then (l,⟨6,0⟩) else if ¬ (-1073741824<=num l (at1 l a)+n/\num l (at1 l a)+n<=1073741824) then (l,⟨3,0⟩) else (zcH l a (num l (at1 l a)+n),⟨0,num l (at1 l a)+n⟩):=rfl
theorem zg4 (l:List (Int×Int)) (a b n:Int):doR l ⟨6,a,b,n⟩=if ¬ at1 l a < l.length then (l,⟨6,0⟩) else if ¬ at1 l b < l.length then (l,⟨6,0⟩)
 else (zcH (zcH l a (num l (at1 l b))) b (num l (at1 l a)),⟨0,num l (at1 l b)⟩):=rfl
theorem zmi (l:List (Int×Int)) (c:Cl):(doR l c).2=(zbw l c).2:=by
 unfold doR zbw
 repeat' split
 all_goals rfl
theorem zeg (l:List (Int×Int)) (name n:Int) (j:Nat) (hj:j < l.length):(zcH l name n).getD j (0,0)=if (l.getD j (0,0)).1=name then ((l.getD j (0,0)).1,n) else l.getD j (0,0):=by
 simp [zcH,List.getD_eq_getElem?_getD,hj]
theorem zqa (l:List (Int×Int)) (name n x:Int):at1 (zcH l name n) x=at1 l x:=by
 have hf:∀ j,j < l.length->((zcH l name n).getD j (0,0)).1=(l.getD j (0,0)).1:=fun j hj=>by
  rw [zeg _ _ _ _ hj]; split <;> rfl
 by_cases h:at1 l x < l.length
 ·refine zlL (by rw [zb0]; exact h) (by rw [hf _ h]; exact zeP h) (fun j hj=>by rw [hf _ (by omega)]; exact ze0 hj)
 ·have e:at1 l x=l.length:=by have:=zl3 l x; omega
  rw [e,<- zb0 l name n]
  refine zia fun j hj=>?_
  rw [zb0] at hj
  rw [hf _ hj]
  exact ze0 (by omega)
theorem zgd (l:List (Int×Int)) (a:Int):(zdt l a).length=l.length - 1:=by simp [zdt]
theorem zkb (l:List (Int×Int)) (a:Int) (j:Nat) (hj:j < l.length - 1):(zdt l a).getD j (0,0)=if (l.getD j (0,0)).1=a then l.getD (l.length - 1) (0,0) else l.getD j (0,0):=by
 have h2:j < l.length:=by omega
 unfold zdt
 rw [List.getD_eq_getElem?_getD,List.getElem?_take,if_pos hj,List.getElem?_map,List.getElem?_eq_getElem h2]
 simp [List.getD_eq_getElem?_getD,h2]
def zhz (w:World) (v:Value) (l:List (Int×Int)) (c:Cl) (e:Ending) (w':World):Prop :=
 ∃ u,e=.returned (.tuple #[u,(doR l c).2.val])/\zax w' u (doR l c).1/\∀ base,base<=w.heap.size->Has base w v l->Has base w' u (doR l c).1
theorem zcW {w w':World} {l:List (Int×Int)} {c:Cl} {v:Value} {r:Rp} (h:doR l c=(l,r)) (hv:zax w v l) (he:Ext w w'):zhz w v l c (.returned (.tuple #[v,r.val])) w':=by
 refine ⟨v,?_,?_,fun base _ hh=>?_⟩ <;> rw [h]
 ·exact hv.ext he
 ·exact hh.ext he
theorem zfV {w w':World} {l l':List (Int×Int)} {c:Cl} {u v:Value} {r:Rp} {b:Nat} (h:doR l c=(l',r)) (hu:Has b w' u l') (hb:w.heap.size<=b):zhz w v l c (.returned (.tuple #[u,r.val])) w':=by
 refine ⟨u,?_,?_,fun base hle _=>?_⟩ <;> rw [h]
 ·exact hu.writes
 ·exact hu.low (Nat.le_trans hle hb)

theorem zos {w:World} {x:Value} {k a o n:Int} (wx:World) (hx:Ext (((w.alloc (.cells #[x] 27)).alloc (.cells #[I k,I a,I o,I n] 34)).alloc (.cells #[I 0,I 0] 39)) wx) :
   wx.cell? ⟨w.heap.size,0,none⟩=some x/\wx.cell? ⟨w.heap.size+1,0,none⟩=some (I k)/\wx.cell? ⟨w.heap.size+1,1,none⟩=some (I a)/\wx.cell? ⟨w.heap.size+1,2,none⟩=some (I o)/\wx.cell? ⟨w.heap.size+1,3,none⟩=some (I n) /\
   wx.cell? ⟨w.heap.size+1+1,0,none⟩=some (I 0)/\wx.cell? ⟨w.heap.size+1+1,1,none⟩=some (I 0)/\wx.heap[w.heap.size+1+1]?=some (.cells #[I 0,I 0] 39)/\Ext w wx:=by
 have hb:(((w.alloc (.cells #[x] 27)).alloc (.cells #[I k,I a,I o,I n] 34)).alloc (.cells #[I 0,I 0] 39)).heap[w.heap.size+1+1]?=some (.cells #[I 0,I 0] 39):=by
  have:=heap_alloc_new ((w.alloc (.cells #[x] 27)).alloc (.cells #[I k,I a,I o,I n] 34)) (.cells #[I 0,I 0] 39)
  simpa using this
 have p0:(((w.alloc (.cells #[x] 27)).alloc (.cells #[I k,I a,I o,I n] 34)).alloc (.cells #[I 0,I 0] 39)).heap[w.heap.size]?=some (.cells #[x] 27):=by
  rw [heap_alloc_old _ _ (by simp; omega),heap_alloc_old _ _ (by simp)]
  exact heap_alloc_new _ _
 have p1:(((w.alloc (.cells #[x] 27)).alloc (.cells #[I k,I a,I o,I n] 34)).alloc (.cells #[I 0,I 0] 39)).heap[w.heap.size+1]?=some (.cells #[I k,I a,I o,I n] 34):=by
  rw [heap_alloc_old _ _ (by simp)]
  have:=heap_alloc_new (w.alloc (.cells #[x] 27)) (.cells #[I k,I a,I o,I n] 34)
  simpa using this
 refine ⟨hx.cell (zaW p0 rfl),hx.cell (zaW p1 rfl),hx.cell (zaW p1 rfl),hx.cell (zaW p1 rfl),hx.cell (zaW p1 rfl),hx.cell (zaW hb rfl),hx.cell (zaW hb rfl),?_,((((Ext.refl w).alloc _).alloc _).alloc _).trans hx⟩
 rw [hx.block _ (by simp)]
 exact hb

theorem zh2 (v:Value) (l:List (Int×Int)) (k a o n:Int) (w:World) (hv:zax w v l) (hl:Okw l) (hk:k=2∨k=3∨k=4∨k=6) (ha:¬ at1 l a < l.length) :
  Calls Tryz.prog 91 #[v,.agg #[I k,I a,I o,I n]] w fun e w'=>zhz w v l ⟨k,a,o,n⟩ e w'/\Ext w w':=by
 have hmf:=zdT;have hl5:=hl.len;obtain ⟨ao,cap,rfl,g1,g2,g3⟩:=hv.form;unfold maxLen at g2;have H3:Hid _:=g3;clear g3;go_enter Tryz.func91,Tryz.ntmps91
 go_wp2_with fail
 refine Calls.exts (zey _ l a _ (hv.ext ((((Ext.refl w).alloc _).alloc _).alloc _))) (fun w1 e1=>?_);obtain ⟨s0,q0,q1,q2,q3,x0,x1,hbx,hw1⟩:=zos w1 e1;obtain ⟨_,_,f0,f1⟩:=zaL hbx (Ext.refl w1);have hv1:=hv.ext hw1;have hbs:w.heap.size+1+1 < w1.heap.size:=(Array.getElem?_eq_some_iff.1 hbx).1;have hz:=zh4 ha;have hz2:=zhi ha;rw [hz,hz2];clear hz hz2;rcases hk with rfl | rfl | rfl | rfl
 ·go_wp2_with fail
  refine Calls.exts (zfg _ _ _ _ s0 (zdW s0)) (fun w2 e2=>?_);obtain ⟨x0,x1,f0,f1⟩:=zaL hbx e2;have m2:=hw1.trans e2;go_wp2
  try simp only [Exit.inBlock,Exit.then]
  refine bodyPost_ret (by simp [results,Tryz.results91,go_sem,x0,x1]; rfl) rfl ?_;exact ⟨zcW (r:=⟨6,0⟩) (by rw [zls,if_pos ha]) hv ((m2.setCell (by simp only []; omega) _).setCell (by simp only []; omega) _),(m2.setCell (by simp only []; omega) _).setCell (by simp only []; omega) _⟩
 ·go_wp2_with fail
  refine Calls.exts (zfg _ _ _ _ s0 (zdW s0)) (fun w2 e2=>?_);obtain ⟨x0,x1,f0,f1⟩:=zaL hbx e2;have m2:=hw1.trans e2;go_wp2
  try simp only [Exit.inBlock,Exit.then]
  refine bodyPost_ret (by simp [results,Tryz.results91,go_sem,x0,x1]; rfl) rfl ?_;exact ⟨zcW (r:=⟨6,0⟩) (by rw [zj1,if_pos ha]) hv ((m2.setCell (by simp only []; omega) _).setCell (by simp only []; omega) _),(m2.setCell (by simp only []; omega) _).setCell (by simp only []; omega) _⟩
 ·go_wp2_with fail
  refine Calls.exts (zfg _ _ _ _ s0 (zdW s0)) (fun w2 e2=>?_);obtain ⟨x0,x1,f0,f1⟩:=zaL hbx e2;have m2:=hw1.trans e2;go_wp2
  try simp only [Exit.inBlock,Exit.then]
  refine bodyPost_ret (by simp [results,Tryz.results91,go_sem,x0,x1]; rfl) rfl ?_;exact ⟨zcW (r:=⟨6,0⟩) (by rw [zhZ,if_pos ha]) hv ((m2.setCell (by simp only []; omega) _).setCell (by simp only []; omega) _),(m2.setCell (by simp only []; omega) _).setCell (by simp only []; omega) _⟩
 ·go_wp2_with fail
  refine Calls.exts (zfg _ _ _ _ s0 (zdW s0)) (fun w2 e2=>?_);obtain ⟨x0,x1,f0,f1⟩:=zaL hbx e2;have m2:=hw1.trans e2;go_wp2
  try simp only [Exit.inBlock,Exit.then]
  refine bodyPost_ret (by simp [results,Tryz.results91,go_sem,x0,x1]; rfl) rfl ?_;exact ⟨zcW (r:=⟨6,0⟩) (by rw [zg4,if_pos ha]) hv ((m2.setCell (by simp only []; omega) _).setCell (by simp only []; omega) _),(m2.setCell (by simp only []; omega) _).setCell (by simp only []; omega) _⟩

open Go.RowKit Go.Mk

theorem zlo (v:Value) (l:List (Int×Int)) (a o n:Int) (w:World) (hv:zax w v l) (hl:Okw l) :
  Calls Tryz.prog 91 #[v,.agg #[I 5,I a,I o,I n]] w fun e w'=>zhz w v l ⟨5,a,o,n⟩ e w'/\Ext w w':=by
 have hmf:=zdT;have hl5:=hl.len;obtain ⟨ao,cap,rfl,g1,g2,g3⟩:=hv.form;unfold maxLen at g2;have H3:Hid _:=g3;clear g3;go_enter Tryz.func91,Tryz.ntmps91
 go_wp2_with fail
 refine Calls.exts (zey _ l a _ (hv.ext ((((Ext.refl w).alloc _).alloc _).alloc _))) (fun w1 e1=>?_);obtain ⟨s0,q0,q1,q2,q3,x0,x1,hbx,hw1⟩:=zos w1 e1;obtain ⟨_,_,f0,f1⟩:=zaL hbx (Ext.refl w1);have hv1:=hv.ext hw1;have hbs:w.heap.size+1+1 < w1.heap.size:=(Array.getElem?_eq_some_iff.1 hbx).1;go_wp2_with fail
 go_region
 go_wp2
 try simp only [Exit.inBlock,Exit.then]
 refine bodyPost_ret (by simp [results,Tryz.results91,go_sem,x0,x1]; rfl) rfl ?_;exact ⟨zcW (r:=⟨0,l.length⟩) (by rw [zlc]) hv ((hw1.setCell (by simp only []; omega) _).setCell (by simp only []; omega) _).drew,((hw1.setCell (by simp only []; omega) _).setCell (by simp only []; omega) _).drew⟩

theorem zoV (v:Value) (l:List (Int×Int)) (a o n:Int) (w:World) (hv:zax w v l) (hl:Okw l) :
  Calls Tryz.prog 91 #[v,.agg #[I 1,I a,I o,I n]] w fun e w'=>zhz w v l ⟨1,a,o,n⟩ e w'/\Ext w w':=by
 have hmf:=zdT;have hl5:=hl.len;obtain ⟨ao,cap,rfl,g1,g2,g3⟩:=hv.form;unfold maxLen at g2;have H3:Hid _:=g3;clear g3;go_enter Tryz.func91,Tryz.ntmps91
 go_wp2_with fail
 refine Calls.exts (zey _ l a _ (hv.ext ((((Ext.refl w).alloc _).alloc _).alloc _))) (fun w1 e1=>?_);obtain ⟨s0,q0,q1,q2,q3,x0,x1,hbx,hw1⟩:=zos w1 e1;obtain ⟨_,_,f0,f1⟩:=zaL hbx (Ext.refl w1);have hv1:=hv.ext hw1;have hbs:w.heap.size+1+1 < w1.heap.size:=(Array.getElem?_eq_some_iff.1 hbx).1;by_cases ha:at1 l a < l.length
 case neg =>
  have hz:=zh4 ha;have hz2:=zhi ha;rw [hz,hz2];clear hz hz2;by_cases h5:5<=l.length
  ·have h5':(5:Int)<=(l.length:Int):=by omega
   go_wp2_with fail
   refine Calls.exts (zfg _ _ _ _ s0 (zdW s0)) (fun w2 e2=>?_);obtain ⟨x0,x1,f0,f1⟩:=zaL hbx e2;have m2:=hw1.trans e2;go_wp2
   try simp only [Exit.inBlock,Exit.then]
   refine bodyPost_ret (by simp [results,Tryz.results91,go_sem,x0,x1]; rfl) rfl ?_;exact ⟨zcW (r:=⟨9,0⟩) (by rw [zif,if_neg ha,if_pos h5]) hv ((m2.setCell (by simp only []; omega) _).setCell (by simp only []; omega) _),(m2.setCell (by simp only []; omega) _).setCell (by simp only []; omega) _⟩
  ·have h5':(l.length:Int) < 5:=by omega
   go_wp2_with fail
   refine (zgI _ l a n _ hv1 (by omega)).mono ?_;rintro e w2 ⟨r,rfl,e2,hr2⟩
   rw [zo9 ha] at hr2;obtain ⟨x0,x1,f0,f1⟩:=zaL hbx e2;have m2:=hw1.trans e2;go_wp2
   try simp only [Exit.inBlock,Exit.then]
   refine bodyPost_ret (by simp [results,Tryz.results91,go_sem,x0,x1]; rfl) rfl ?_;exact ⟨zfV (r:=⟨0,0⟩) (by rw [zif,if_neg ha,if_neg h5]) ((hr2.set hbs _ _).set hbs _ _) hw1.size,(m2.setCell (by simp only []; omega) _).setCell (by simp only []; omega) _⟩
 have hz:=zgr ha;have hz2:=ze7 ha;rw [hz,hz2];clear hz hz2;go_wp2_with fail
 refine (zgI _ l a n _ hv1 (by omega)).mono ?_;rintro e w2 ⟨r,rfl,e2,hr2⟩
 rw [zgK ha] at hr2;obtain ⟨x0,x1,f0,f1⟩:=zaL hbx e2;have m2:=hw1.trans e2;go_wp2
 try simp only [Exit.inBlock,Exit.then]
 refine bodyPost_ret (by simp [results,Tryz.results91,go_sem,x0,x1]; rfl) rfl ?_;exact ⟨zfV (r:=⟨0,num l (at1 l a)⟩) (by rw [zif,if_pos ha]) ((hr2.set hbs _ _).set hbs _ _) hw1.size,(m2.setCell (by simp only []; omega) _).setCell (by simp only []; omega) _⟩

theorem zrZ (v:Value) (l:List (Int×Int)) (a o n:Int) (w:World) (hv:zax w v l) (hl:Okw l) (ha:at1 l a < l.length) :
  Calls Tryz.prog 91 #[v,.agg #[I 2,I a,I o,I n]] w fun e w'=>zhz w v l ⟨2,a,o,n⟩ e w'/\Ext w w':=by
 have hmf:=zdT;have hl5:=hl.len;obtain ⟨ao,cap,rfl,g1,g2,g3⟩:=hv.form;unfold maxLen at g2;have H3:Hid _:=g3;clear g3;go_enter Tryz.func91,Tryz.ntmps91
 go_wp2_with fail
 refine Calls.exts (zey _ l a _ (hv.ext ((((Ext.refl w).alloc _).alloc _).alloc _))) (fun w1 e1=>?_);obtain ⟨s0,q0,q1,q2,q3,x0,x1,hbx,hw1⟩:=zos w1 e1;obtain ⟨_,_,f0,f1⟩:=zaL hbx (Ext.refl w1);have hv1:=hv.ext hw1;have hbs:w.heap.size+1+1 < w1.heap.size:=(Array.getElem?_eq_some_iff.1 hbx).1;have hz:=zgr ha;have hz2:=ze7 ha;rw [hz,hz2];clear hz hz2;go_wp2
 try simp only [Exit.inBlock,Exit.then]
 refine bodyPost_ret (by simp [results,Tryz.results91,go_sem,x0,x1]; rfl) rfl ?_;exact ⟨zcW (r:=⟨0,num l (at1 l a)⟩) (by rw [zls,if_neg (by simpa using ha)]) hv ((hw1.setCell (by simp only []; omega) _).setCell (by simp only []; omega) _),(hw1.setCell (by simp only []; omega) _).setCell (by simp only []; omega) _⟩

open Go.RowKit Go.Mk

theorem znV (l:List (Int×Int)) (a:Int) {k:Nat} (hk:k < l.length - 1) :
  (zdt l a).take (k+1)=(zdt l a).take k++[if (l.getD k (0,0)).1=a then l.getD (l.length - 1) (0,0) else l.getD k (0,0)]:=by
 have e:(zdt l a)[k]?=some ((zdt l a).getD k (0,0)):=by
  have:k < (zdt l a).length:=by rw [zgd]; exact hk
  rw [List.getD_eq_getElem?_getD,List.getElem?_eq_getElem this]
  rfl
 rw [List.take_add_one,e,<- zkb _ _ _ hk]
 rfl

theorem zp7 (v:Value) (l:List (Int×Int)) (a o n:Int) (w:World) (hv:zax w v l) (hl:Okw l) (ha:at1 l a < l.length) :
  Calls Tryz.prog 91 #[v,.agg #[I 3,I a,I o,I n]] w fun e w'=>zhz w v l ⟨3,a,o,n⟩ e w'/\Ext w w':=by
 obtain ⟨i0,hi,hz0,hz1,hz2⟩:=info_parts Tryz.infoWrite2;have hmf:=zdT;have hl5:=hl.len;obtain ⟨ao,cap,rfl,g1,g2,g3⟩:=hv.form;unfold maxLen at g2;have H3:Hid _:=g3;clear g3;go_enter Tryz.func91,Tryz.ntmps91
 go_wp2_with fail
 refine Calls.exts (zey _ l a _ (hv.ext ((((Ext.refl w).alloc _).alloc _).alloc _))) (fun w1 e1=>?_);obtain ⟨s0,q0,q1,q2,q3,x0,x1,hbx,hw1⟩:=zos w1 e1;obtain ⟨_,_,f0,f1⟩:=zaL hbx (Ext.refl w1);have hv1:=hv.ext hw1;have hbs:w.heap.size+1+1 < w1.heap.size:=(Array.getElem?_eq_some_iff.1 hbx).1;have hy:=zgr ha;have hy2:=ze7 ha;rw [hy,hy2];clear hy hy2;generalize hM:num l (at1 l a)=m0 at *
 have HD:Hid (doR l ⟨3,a,o,n⟩=(zdt l a,⟨0,m0⟩)):=by
  unfold Hid;rw [zj1,if_neg (by simpa using ha),hM]
 clear hM;have hv1f:=hv1.form;obtain ⟨ao',cap',he',_,_,g3⟩:=hv1f;simp only [Value.slice.injEq,true_and] at he';obtain ⟨rfl,rfl⟩:=he';obtain ⟨b,off,rfl,_⟩:=g3 0 (by omega)
 have HC:Hid (∀ j,j < l.length->w1.cell? ⟨b,off+j * 2,none⟩=some (I (l.getD j (0,0)).1)/\w1.cell? ⟨b,off+j * 2+1,none⟩=some (I (l.getD j (0,0)).2)):=fun j hj=>by
  obtain ⟨b',off',e',r1,r2⟩:=g3 j hj;simp only [Option.some.injEq,Addr.mk.injEq,and_true] at e';obtain ⟨rfl,rfl⟩:=e';exact ⟨r1,r2⟩
 clear g3 H3;have HX:Hid (∀ k,k < l.length - 1->(zdt l a).take (k+1)=(zdt l a).take k++[if (l.getD k (0,0)).1=a then l.getD (l.length - 1) (0,0) else l.getD k (0,0)]):=fun k hk=>znV l a hk;have HLD:Hid ((zdt l a).length=l.length - 1):=zgd l a;go_wp2_with fail
 go_loopw [9,78] (fun out i wr=>∃ k:Nat,k<=l.length/\i=I k/\wr.ownsRow w1.heap.size 111 2 out (min k (l.length - 1)) (zaB ((zdt l a).take k))/\Ext w1 wr) (fun _ i _=>l.length - (intOf i).toNat)
 case atStart=>exact ⟨0,by omega,rfl,by rw [Nat.zero_min]; exact World.ownsRow_nil _ _ _ _,Ext.refl w1⟩
 case round =>
  obtain ⟨k,hk,rfl,ho,he⟩:=hrel;by_cases hlt:k < l.length
  ·obtain ⟨c1,c2⟩:=HC.o k hlt;obtain ⟨c3,c4⟩:=HC.o (l.length - 1) (by omega);replace c1:=he.cell c1;replace c2:=he.cell c2;have t0:=he.cell s0;have t1:=he.cell q1;have u0:=fun o=>((Ext.refl wr).alloc o).cell t0;have u1:=fun o=>((Ext.refl wr).alloc o).cell t1;have u3:=fun o=>((Ext.refl wr).alloc o).cell (he.cell c3);have u4:=fun o=>((Ext.refl wr).alloc o).cell (he.cell c4);clear c3 c4 t0 t1;have HXk:=HX.o k;have HT:Hid (k < l.length - 1->(zdt l a).take (k+1)=(zdt l a).take k++[if (l.getD k (0,0)).1=a then l.getD (l.length - 1) (0,0) else l.getD k (0,0)]):=HXk;clear HXk;generalize hL:l.length - 1=L at *;have hLi:(l.length:Int) - 1=(L:Int):=by omega
   have hLt:(L:Int) < (l.length:Int):=by omega
   generalize l.getD L (0,0)=q at *;generalize l.getD k (0,0)=p at *;obtain ⟨at_,m⟩:=p;obtain ⟨b_,y⟩:=q;simp only [] at c1 c2 u3 u4 HT;by_cases hn:at_=a
   ·have hb:(at_ == a)=true:=by simp [hn]
    have HN:Hid (at_=a):=hn;clear hn;by_cases hkL:k < L
    ·have hkL':(k:Int) < (L:Int):=by omega
     rw [show min k L=k by omega] at ho;go_wp2_with (at_builtin; refine zbG ?_)
     unfold Hid;refine zaA _ rfl (.tmp 99) (.tmp 101) 27 rfl w1.heap.size 111 i0 (.agg #[.int .i64 0,.int .i64 0]) 2 16 zfG hi hz0 hz1 hz2 rfl (by decide) u9 k (zaB ((zdt l a).take k)) rfl ((ho.alloc _).alloc _) _ rfl 1 [I b_,I y] (zeD _ _ [(b_,y)] _ 1 rfl rfl (by decide)) (zbK [(b_,y)]) (by omega) (by decide) (by have:=he.size; simp; omega) ?_;intro o' w3 ho3 hg3;have he3:Ext w1 w3:=((he.alloc _).alloc _).grown hg3 (fun j hj=>(ho.lt j hj).1);clear hg3;go_wp2
     go_roundw
     case rel =>
      refine ⟨k+1,by omega,by go_num,?_,he3⟩;rw [HT.o hkL,if_pos HN.o,zbl,show min (k+1) L=k+1 by omega];exact ho3
     case measure=>simp [intOf]; omega
    ·have hkL':¬ (k:Int) < (L:Int):=by omega
     go_wp2
     go_roundw
     case rel =>
      refine ⟨k+1,by omega,by go_num,?_,he.alloc _⟩;rw [show min (k+1) L=min k L by omega,List.take_of_length_le (by rw [HLD.o]; omega)];rw [List.take_of_length_le (by rw [HLD.o]; omega)] at ho;exact ho.alloc _
     case measure=>simp [intOf]; omega
   ·have hb:(at_ == a)=false:=by simpa using hn
    have HN:Hid (¬ at_=a):=hn;clear hn;by_cases hkL:k < L
    ·have hkL':(k:Int) < (L:Int):=by omega
     rw [show min k L=k by omega] at ho;go_wp2_with (at_builtin; refine zbG ?_)
     unfold Hid;refine zaA _ rfl (.tmp 99) (.tmp 101) 27 rfl w1.heap.size 111 i0 (.agg #[.int .i64 0,.int .i64 0]) 2 16 zfG hi hz0 hz1 hz2 rfl (by decide) u9 k (zaB ((zdt l a).take k)) rfl ((ho.alloc _).alloc _) _ rfl 1 [I at_,I m] (zeD _ _ [(at_,m)] _ 1 rfl rfl (by decide)) (zbK [(at_,m)]) (by omega) (by decide) (by have:=he.size; simp; omega) ?_;intro o' w3 ho3 hg3;have he3:Ext w1 w3:=((he.alloc _).alloc _).grown hg3 (fun j hj=>(ho.lt j hj).1);clear hg3;go_wp2
     go_roundw
     case rel =>
      refine ⟨k+1,by omega,by go_num,?_,he3⟩;rw [HT.o hkL,if_neg HN.o,zbl,show min (k+1) L=k+1 by omega];exact ho3
     case measure=>simp [intOf]; omega
    ·have hkL':¬ (k:Int) < (L:Int):=by omega
     go_wp2
     go_roundw
     case rel =>
      refine ⟨k+1,by omega,by go_num,?_,he.alloc _⟩;rw [show min (k+1) L=min k L by omega,List.take_of_length_le (by rw [HLD.o]; omega)];rw [List.take_of_length_le (by rw [HLD.o]; omega)] at ho;exact ho.alloc _
     case measure=>simp [intOf]; omega
  ·rw [List.take_of_length_le (by rw [HLD.o]; omega)] at ho;obtain ⟨x0,x1,f0,f1⟩:=zaL hbx he;have m3:=hw1.trans he;have hh:Has w1.heap.size wr u9 (zdt l a):=⟨_,_,_,ho,fun w2 h2=>zaC h2⟩;go_wp2
   try simp only [Exit.inBlock,Exit.then]
   refine bodyPost_ret (by simp [results,Tryz.results91,go_sem,x0,x1]; rfl) rfl ?_;exact ⟨zfV (r:=⟨0,m0⟩) HD.o ((hh.set hbs _ _).set hbs _ _) hw1.size,(m3.setCell (by simp only []; omega) _).setCell (by simp only []; omega) _⟩

open Go.RowKit Go.Mk

theorem zrN (v:Value) (l:List (Int×Int)) (a o n:Int) (w:World) (hv:zax w v l) (hl:Okw l) (ha:at1 l a < l.length) (hn:-1073741824<=n/\n<=1073741824) :
  Calls Tryz.prog 91 #[v,.agg #[I 4,I a,I o,I n]] w fun e w'=>zhz w v l ⟨4,a,o,n⟩ e w'/\Ext w w':=by
 have hmf:=zdT;have hl5:=hl.len;obtain ⟨ao,cap,rfl,g1,g2,g3⟩:=hv.form;unfold maxLen at g2;have H3:Hid _:=g3;clear g3;go_enter Tryz.func91,Tryz.ntmps91
 go_wp2_with fail
 refine Calls.exts (zey _ l a _ (hv.ext ((((Ext.refl w).alloc _).alloc _).alloc _))) (fun w1 e1=>?_);obtain ⟨s0,q0,q1,q2,q3,x0,x1,hbx,hw1⟩:=zos w1 e1;obtain ⟨_,_,f0,f1⟩:=zaL hbx (Ext.refl w1);have hv1:=hv.ext hw1;have hbs:w.heap.size+1+1 < w1.heap.size:=(Array.getElem?_eq_some_iff.1 hbx).1;have hz:=zgr ha;have hz2:=ze7 ha;rw [hz,hz2];clear hz hz2;have hm:=(hl.at ha).2.2;have hm1:-1073741824<=num l (at1 l a):=hm.1;have hm2:num l (at1 l a)<=1073741824:=hm.2;clear hm;obtain ⟨n1,n2⟩:=hn;generalize hM:num l (at1 l a)=m at *;have HM:Hid (num l (at1 l a)=m):=hM;clear hM;by_cases hs:-1073741824<=m+n/\m+n<=1073741824
 case neg =>
  have hs2:m+n < -1073741824∨1073741824 < m+n:=by omega
  have HNS:Hid (¬ (-1073741824<=m+n/\m+n<=1073741824)):=hs;clear hs;rcases hs2 with hs2 | hs2
  ·go_wp2_with fail
   refine Calls.exts (zfg _ _ _ _ s0 (zdW s0)) (fun w2 e2=>?_);obtain ⟨x0,x1,f0,f1⟩:=zaL hbx e2;have m2:=hw1.trans e2;go_wp2
   try simp only [Exit.inBlock,Exit.then]
   refine bodyPost_ret (by simp [results,Tryz.results91,go_sem,x0,x1]; rfl) rfl ?_;exact ⟨zcW (r:=⟨3,0⟩) (by rw [zhZ,if_neg (by simpa using ha),HM.o,if_pos HNS.o]) hv ((m2.setCell (by simp only []; omega) _).setCell (by simp only []; omega) _),(m2.setCell (by simp only []; omega) _).setCell (by simp only []; omega) _⟩
  ·go_wp2_with fail
   refine Calls.exts (zfg _ _ _ _ s0 (zdW s0)) (fun w2 e2=>?_);obtain ⟨x0,x1,f0,f1⟩:=zaL hbx e2;have m2:=hw1.trans e2;go_wp2
   try simp only [Exit.inBlock,Exit.then]
   refine bodyPost_ret (by simp [results,Tryz.results91,go_sem,x0,x1]; rfl) rfl ?_;exact ⟨zcW (r:=⟨3,0⟩) (by rw [zhZ,if_neg (by simpa using ha),HM.o,if_pos HNS.o]) hv ((m2.setCell (by simp only []; omega) _).setCell (by simp only []; omega) _),(m2.setCell (by simp only []; omega) _).setCell (by simp only []; omega) _⟩
 obtain ⟨s1,s2⟩:=hs;have hsum:IntKind.i64.wrap (m+n)=m+n:=by rw [IntKind.wrap_i64]; omega
 have HSET:Hid (zmj l a (m+n)=zcH l a (m+n)):=zgK ha;go_wp2_with fail
 refine zan 14 [none,none,none,none,none,none,none,some (.inr fun r w'=>Has w1.heap.size w' r (zcH l a (m+n))),none,none,none,none,none,none] (by kernel_rfl) (by kernel_rfl) ?_ ?_
 ·exact ⟨trivial,trivial,trivial,trivial,trivial,trivial,trivial,zf6 _ _,trivial,trivial,trivial,trivial,trivial,trivial,trivial⟩
 refine zay (.slice ao l.length cap) rfl (fun w' hw'=>by have:=hw'.cell s0; go_simp) ?_;(refine zap (fun K hK=>?_); go_simp; refine hK _ ?_; clear hK K)
 refine zay (I a) rfl (fun w' hw'=>by have:=hw'.cell q1; go_simp) ?_;iterate 2 (refine zap (fun K hK=>?_); go_simp; refine hK _ ?_; clear hK K)
 refine zay (I n) rfl (fun w' hw'=>by have:=hw'.cell q3; go_simp) ?_;(refine zap (fun K hK=>?_); go_simp; refine hK _ ?_; clear hK K)
 refine zbb _ rfl (fun w' hw' _=>?_) (fun v134=>?_)
 ·have hg:zaT Tryz.prog 108 #[.slice ao l.length cap,I a,I (m+n)] w' (fun r w''=>Has w1.heap.size w'' r (zcH l a (m+n))) :=
   zaT.mono (zgI _ l a (m+n) w' (hv1.ext hw') (by omega)) (fun r w'' _ h=>by rw [HSET.o] at h; exact h.low hw'.size)
  unfold zaQ;go_simp
  exact ⟨Ext.refl _,hg⟩
 iterate 2 (refine zap (fun K hK=>?_); go_simp; refine hK _ ?_; clear hK K)
 refine zay (I n) rfl (fun w' hw'=>by have:=hw'.cell q3; go_simp) ?_;iterate 3 (refine zap (fun K hK=>?_); go_simp; refine hK _ ?_; clear hK K)
 refine zaP ?_;intro w2 he2 hF;have hr2:Has w1.heap.size w2 v134 (zcH l a (m+n)):=hF 134;clear hF;obtain ⟨x0,x1,f0,f1⟩:=zaL hbx he2;have m2:=hw1.trans he2;go_wp2
 try simp only [Exit.inBlock,Exit.then]
 refine bodyPost_ret (by simp [results,Tryz.results91,go_sem,x0,x1]; rfl) rfl ?_;exact ⟨zfV (r:=⟨0,m+n⟩) (by rw [zhZ,if_neg (by simpa using ha),HM.o,if_neg (by simp; omega)]) ((hr2.set hbs _ _).set hbs _ _) hw1.size,(m2.setCell (by simp only []; omega) _).setCell (by simp only []; omega) _⟩

open Go.RowKit Go.Mk

theorem zqP (v:Value) (l:List (Int×Int)) (a o n:Int) (w:World) (hv:zax w v l) (hl:Okw l) (ha:at1 l a < l.length) :
  Calls Tryz.prog 91 #[v,.agg #[I 6,I a,I o,I n]] w fun e w'=>zhz w v l ⟨6,a,o,n⟩ e w'/\Ext w w':=by
 have hmf:=zdT;have hl5:=hl.len;obtain ⟨ao,cap,rfl,g1,g2,g3⟩:=hv.form;unfold maxLen at g2;have H3:Hid _:=g3;clear g3;go_enter Tryz.func91,Tryz.ntmps91
 go_wp2_with fail
 refine Calls.exts (zey _ l a _ (hv.ext ((((Ext.refl w).alloc _).alloc _).alloc _))) (fun w1 e1=>?_);obtain ⟨s0,q0,q1,q2,q3,x0,x1,hbx,hw1⟩:=zos w1 e1;obtain ⟨_,_,f0,f1⟩:=zaL hbx (Ext.refl w1);have hv1:=hv.ext hw1;have hbs:w.heap.size+1+1 < w1.heap.size:=(Array.getElem?_eq_some_iff.1 hbx).1;have hz:=zgr ha;have hz2:=ze7 ha;rw [hz,hz2];clear hz hz2;go_wp2_with fail
 refine Calls.exts (zey _ l o w1 hv1) (fun w2 e2=>?_);replace s0:=e2.cell s0;replace q0:=e2.cell q0;replace q1:=e2.cell q1;replace q2:=e2.cell q2;replace q3:=e2.cell q3;have hbx2:w2.heap[w.heap.size+1+1]?=some (.cells #[I 0,I 0] 39):=by rw [e2.block _ hbs]; exact hbx
 have hw2:=hw1.trans e2;have hv2:=hv1.ext e2;have hbs2:w.heap.size+1+1 < w2.heap.size:=Nat.lt_of_lt_of_le hbs e2.size;clear x0 x1 f0 f1 hv1 hbx hw1 hbs;by_cases hb:at1 l o < l.length
 case neg =>
  rw [zh4 hb,zhi hb];go_wp2_with fail
  refine Calls.exts (zfg _ _ _ _ s0 (zdW s0)) (fun w3 e3=>?_);obtain ⟨x0,x1,f0,f1⟩:=zaL hbx2 e3;have m3:=hw2.trans e3;go_wp2
  try simp only [Exit.inBlock,Exit.then]
  refine bodyPost_ret (by simp [results,Tryz.results91,go_sem,x0,x1]; rfl) rfl ?_;exact ⟨zcW (r:=⟨6,0⟩) (by rw [zg4,if_neg (by simpa using ha),if_pos hb]) hv ((m3.setCell (by simp only []; omega) _).setCell (by simp only []; omega) _),(m3.setCell (by simp only []; omega) _).setCell (by simp only []; omega) _⟩
 rw [zgr hb,ze7 hb];have hm:=(hl.at ha).2.2;have hm':=(hl.at hb).2.2;have HS1:Hid (zmj l a (num l (at1 l o))=zcH l a (num l (at1 l o))):=zgK ha;have HS2:Hid (zmj (zcH l a (num l (at1 l o))) o (num l (at1 l a))=zcH (zcH l a (num l (at1 l o))) o (num l (at1 l a))):=zgK (by rw [zqa,zb0]; exact hb)
 have HD:Hid (doR l ⟨6,a,o,n⟩=(zcH (zcH l a (num l (at1 l o))) o (num l (at1 l a)),⟨0,num l (at1 l o)⟩)):=by
  unfold Hid;rw [zg4,if_neg (by simpa using ha),if_neg (by simpa using hb)]
 have hlp:(zcH l a (num l (at1 l o))).length<=5:=by rw [zb0]; exact hl5
 clear hm hm';generalize zcH (zcH l a (num l (at1 l o))) o (num l (at1 l a))=L2 at *;generalize zcH l a (num l (at1 l o))=L1 at *;generalize num l (at1 l a)=m at *;generalize num l (at1 l o)=m' at *;go_wp2_with fail
 refine zan 12 [none,none,none,none,some (.inr fun r w'=>zax w' r L1),none,none,none,some (.inr fun r w'=>Has w2.heap.size w' r L2),none,none,none] (by kernel_rfl) (by kernel_rfl) ?_ ?_
 ·exact ⟨trivial,trivial,trivial,trivial,ze3 _,trivial,trivial,trivial,zf6 _ _,trivial,trivial,trivial,trivial⟩
 refine zay (.slice ao l.length cap) rfl (fun w' hw'=>by have:=hw'.cell s0; go_simp) ?_;(refine zap (fun K hK=>?_); go_simp; refine hK _ ?_; clear hK K)
 refine zay (I a) rfl (fun w' hw'=>by have:=hw'.cell q1; go_simp) ?_;(refine zap (fun K hK=>?_); go_simp; refine hK _ ?_; clear hK K)
 refine zbb _ rfl (fun w' hw' _=>?_) (fun v157=>?_)
 ·have hg:zaT Tryz.prog 108 #[.slice ao l.length cap,I a,I m'] w' (fun r w''=>zax w'' r L1) :=
   zaT.mono (zgI _ l a m' w' (hv2.ext hw') (by omega)) (fun r w'' _ h=>by rw [HS1.o] at h; exact h.writes)
  unfold zaQ;go_simp
  exact ⟨Ext.refl _,hg⟩
 (refine zap (fun K hK=>?_); go_simp; refine hK _ ?_; clear hK K)
 refine zay (I o) rfl (fun w' hw'=>by have:=hw'.cell q2; go_simp) ?_;(refine zap (fun K hK=>?_); go_simp; refine hK _ ?_; clear hK K)
 refine zbb _ rfl (fun w' hw' hk=>?_) (fun v161=>?_)
 ·have h7:zax w' v157 L1:=hk 157 (by decide)
  have hg:zaT Tryz.prog 108 #[v157,I o,I m] w' (fun r w''=>Has w2.heap.size w'' r L2) :=
   zaT.mono (zgI _ L1 o m w' h7 (by omega)) (fun r w'' _ h=>by rw [HS2.o] at h; exact h.low hw'.size)
  clear hk h7;unfold zaQ;go_simp
  exact ⟨Ext.refl _,hg⟩
 iterate 3 (refine zap (fun K hK=>?_); go_simp; refine hK _ ?_; clear hK K)
 refine zaP ?_;intro w3 he3 hF;have hr2:Has w2.heap.size w3 v161 L2:=hF 161;clear hF;obtain ⟨x0,x1,f0,f1⟩:=zaL hbx2 he3;have m3:=hw2.trans he3;go_wp2
 try simp only [Exit.inBlock,Exit.then]
 refine bodyPost_ret (by simp [results,Tryz.results91,go_sem,x0,x1]; rfl) rfl ?_;exact ⟨zfV (r:=⟨0,m'⟩) HD.o ((hr2.set hbs2 _ _).set hbs2 _ _) hw2.size,(m3.setCell (by simp only []; omega) _).setCell (by simp only []; omega) _⟩

open Go.RowKit Go.Mk

theorem zeK (v:Value) (l:List (Int×Int)) (k a o n:Int) (w:World) (hv:zax w v l) (hl:Okw l) (hc:wrongCl ⟨k,a,o,n⟩=0) :
  Calls Tryz.prog 91 #[v,.agg #[I k,I a,I o,I n]] w fun e w'=>zhz w v l ⟨k,a,o,n⟩ e w'/\Ext w w':=by
 obtain ⟨hk,hn⟩:=zeJ hc
 by_cases ha:at1 l a < l.length
 ·rcases hk with rfl | rfl | rfl | rfl | rfl | rfl
  ·exact zoV v l a o n w hv hl
  ·exact zrZ v l a o n w hv hl ha
  ·exact zp7 v l a o n w hv hl ha
  ·exact zrN v l a o n w hv hl ha (hn (.inr rfl))
  ·exact zlo v l a o n w hv hl
  ·exact zqP v l a o n w hv hl ha
 ·rcases hk with rfl | rfl | rfl | rfl | rfl | rfl
  ·exact zoV v l a o n w hv hl
  ·exact zh2 v l 2 a o n w hv hl (by simp) ha
  ·exact zh2 v l 3 a o n w hv hl (by simp) ha
  ·exact zh2 v l 4 a o n w hv hl (by simp) ha
  ·exact zlo v l a o n w hv hl
  ·exact zh2 v l 6 a o n w hv hl (by simp) ha

open Go.RowKit Go.Mk

theorem znY (v:Value) (xs:List Int) (w:World) (hv:zby w v xs) (hw:xs.length=11/\0<=xs.getD 0 0/\xs.getD 0 0<=5) :
  Calls Tryz.prog 90 #[v] w fun e w'=>∃ r,e=.returned r/\Ext w w'/\Has w.heap.size w' r (zaN xs (xs.getD 0 0).toNat):=by
 obtain ⟨hl,x0,x5⟩:=id hw;obtain ⟨i0,hi,hz0,hz1,hz2⟩:=info_parts Tryz.infoWrite2
 have H3:Hid (∀ k,k < 11->∃ ao cap,v=.slice ao 11 cap/\11<=cap/\cap<=maxLen/\∃ b off,ao=some ⟨b,off,none⟩/\w.cell? ⟨b,off+k,none⟩=some (I (xs.getD k 0))):=fun k hk=>by
  obtain ⟨ao,cap,h1,h2,h3,h4⟩:=hv.form;rw [hl] at h1 h2 h4;exact ⟨ao,cap,h1,h2,h3,h4 k hk⟩
 obtain ⟨ao,cap,rfl,hcap,hm,b,off,rfl,hc0⟩:=H3.o 0 (by omega)
 have HC:Hid (∀ k,k < 11->w.cell? ⟨b,off+k,none⟩=some (I (xs.getD k 0))):=fun k hk=>by
  obtain ⟨ao,cap',h1,_,_,b',off',h2,h3⟩:=H3.o k hk;rw [h2] at h1;simp only [Value.slice.injEq,Option.some.injEq,Addr.mk.injEq,and_true] at h1;obtain ⟨⟨rfl,rfl⟩,_,rfl⟩:=h1;exact h3
 clear H3;unfold maxLen at hm;simp only [Nat.add_zero] at hc0;generalize hX:xs.getD 0 0=x at *;clear hX hw hl hv;have HC0:Hid (w.cell? ⟨b,off,none⟩=some (I x)):=hc0;clear hc0;go_enter Tryz.func90,Tryz.ntmps90
 go_wp2_with fail
 go_loopw [3,4] (fun o i wr=>∃ k:Nat,(k:Int)<=x/\i=I (1+2 * k)/\wr.ownsRow w.heap.size 111 2 o k (zaB (zaN xs k))/\Ext w wr) (fun _ i _=>20 - (intOf i).toNat)
 case atStart=>exact ⟨0,by omega,rfl,World.ownsRow_nil _ _ _ _,Ext.refl w⟩
 case round =>
  obtain ⟨k,hk,rfl,ho,he⟩:=hrel;have c0:=he.cell HC0.o;by_cases hlt:(k:Int) < x
  ·have c1:=he.cell (HC.o (1+2 * k) (by omega));have c2:=he.cell (HC.o (1+2 * k+1) (by omega));have HS:Hid (zaN xs (k+1)=zaN xs k++[(xs.getD (1+2 * k) 0,xs.getD (1+2 * k+1) 0)]):=zh5 xs k;generalize xs.getD (1+2 * k) 0=p at *;generalize xs.getD (1+2 * k+1) 0=q at *;have a1:(0:Int)<=1+2 * (k:Int):=by omega
   have a2:1+2 * (k:Int) < 11:=by omega
   have a3:(1+2 * (k:Int)).toNat=1+2 * k:=by omega
   have a4:(0:Int)<=1+2 * (k:Int)+1:=by omega
   have a5:1+2 * (k:Int)+1 < 11:=by omega
   have a6:(1+2 * (k:Int)+1).toNat=1+2 * k+1:=by omega
   have hwr:IntKind.i64.wrap (1+2 * (k:Int)+1)=1+2 * (k:Int)+1:=by rw [IntKind.wrap_i64]; omega
   go_wp2_with fail
   refine zan 12 [none,none,none,none,none,none,none,none,none,none,none,some (.inr fun v w=>zax w v [(p,q)])] (by kernel_rfl) (by kernel_rfl) ?_ ?_
   ·exact ⟨trivial,trivial,trivial,trivial,trivial,trivial,trivial,trivial,trivial,trivial,trivial,ze3 _,trivial⟩
   iterate 4 (refine zap (fun K hK=>?_); go_simp; refine hK _ ?_; clear hK K)
   refine zay (I p) rfl (fun w' hw'=>by have:=hw'.cell c1; go_simp) ?_;iterate 4 (refine zap (fun K hK=>?_); go_simp; refine hK _ ?_; clear hK K)
   refine zay (I q) rfl (fun w' hw'=>by have:=hw'.cell c2; go_simp) ?_;(refine zap (fun K hK=>?_); go_simp; refine hK _ ?_; clear hK K)
   refine zbb _ rfl (fun w' hw' _=>?_) (fun v25=>?_)
   ·unfold zaQ;go_simp
    exact ⟨(Ext.refl _).alloc _,zcY _ _ _ 1 rfl rfl (by decide)⟩
   refine zaP ?_;intro w2 he2 hF;have h25:zax w2 v25 [(p,q)]:=hF 25;clear hF c1 c2 c0;refine zaA _ rfl (.tmp 14) (.tmp 25) 27 rfl w.heap.size 111 i0 _ 2 16 zfG hi hz0 hz1 hz2 rfl (by decide) u3 k (zaB (zaN xs k)) rfl ?_ v25 rfl 1 _ h25 (zbK _) (by omega) (by decide) ?_ ?_
   ·exact zam ho he2
   ·exact Nat.le_trans he.size he2.size
   intro o' w3 ho3 hg3;have he4:Ext w w3:=(he.trans he2).grown hg3 (fun j hj=>(ho.lt j hj).1);clear hg3 he2 h25;go_wp2
   go_roundw
   case rel =>
    refine ⟨k+1,by omega,by go_num,?_,he4⟩;rw [HS.o,zbl];exact ho3
   case measure=>simp [intOf]; omega
  ·go_wp2
   go_ret
   refine ⟨_,rfl,he,?_⟩;rw [show x.toNat=k by omega];exact ⟨_,_,_,ho,fun _ h=>zaC h⟩

theorem zde (v:Value) (xs:List Int) (w:World) (hv:zby w v xs) (hw:xs.length=11/\0<=xs.getD 0 0/\xs.getD 0 0<=5) :
  Calls Tryz.prog 90 #[v] w fun e w'=>∃ r,e=.returned r/\Ext w w'/\zax w' r (zaN xs (xs.getD 0 0).toNat) :=
 (znY v xs w hv hw).mono fun _ _ ⟨r,h1,h2,h3⟩=>⟨r,h1,h2,h3.writes⟩
open Go.RowKit Go.Mk

def zeU (base:Nat) (l:List (Int×Int)) (c:Cl) (e:Ending) (w:World):Prop:=∃ u,e=.returned (.tuple #[u,(zbw l c).2.val])/\Has base w u (zbq l c)

theorem zo5 (v:Value) (xs:List Int) (k a o n:Int) (w:World) (hv:zby w v xs) (hx:zfx xs) (hc:wrongCl ⟨k,a,o,n⟩=0) (he:(zbw (zaN xs (xs.getD 0 0).toNat) ⟨k,a,o,n⟩).2.err≠0) :
  Calls Tryz.prog 66 #[v,.agg #[I k,I a,I o,I n]] w fun e w'=>zeU w.heap.size (zaN xs (xs.getD 0 0).toNat) ⟨k,a,o,n⟩ e w'/\Ext w w':=by
 obtain ⟨_,_,_,hok⟩:=id hx;have hP:zbq (zaN xs (xs.getD 0 0).toNat) ⟨k,a,o,n⟩=[]:=if_pos he;generalize hL:zaN xs (xs.getD 0 0).toNat=l at *;have HL:Hid (zaN xs (xs.getD 0 0).toNat=l):=hL;have HP:Hid (zbq l ⟨k,a,o,n⟩=[]):=hP;rw [<- zmi] at he;clear hP hL
 have HC:Hid (∀ wx,Ext ((w.alloc (.cells #[I k,I a,I o,I n] 34)).alloc (.cells #[I 0,I 0] 39)) wx->(wx.cell? ⟨w.heap.size,0,none⟩=some (I k)/\wx.cell? ⟨w.heap.size,1,none⟩=some (I a)/\wx.cell? ⟨w.heap.size,2,none⟩=some (I o)/\wx.cell? ⟨w.heap.size,3,none⟩=some (I n)) /\
   wx.heap[w.heap.size+1]?=some (.cells #[I 0,I 0] 39)):=fun wx hx=>by
  have p0:((w.alloc (.cells #[I k,I a,I o,I n] 34)).alloc (.cells #[I 0,I 0] 39)).heap[w.heap.size]?=some (.cells #[I k,I a,I o,I n] 34):=by
   rw [heap_alloc_old _ _ (by simp)]; exact heap_alloc_new _ _
  have p1:((w.alloc (.cells #[I k,I a,I o,I n] 34)).alloc (.cells #[I 0,I 0] 39)).heap[w.heap.size+1]?=some (.cells #[I 0,I 0] 39):=by
   have:=heap_alloc_new (w.alloc (.cells #[I k,I a,I o,I n] 34)) (.cells #[I 0,I 0] 39)
   simpa using this
  refine ⟨⟨hx.cell (zaW p0 rfl),hx.cell (zaW p0 rfl),hx.cell (zaW p0 rfl),hx.cell (zaW p0 rfl)⟩,?_⟩
  rw [hx.block _ (by simp)]
  exact p1
 have e0:Ext w ((w.alloc (.cells #[I k,I a,I o,I n] 34)).alloc (.cells #[I 0,I 0] 39)):=((Ext.refl w).alloc _).alloc _;go_enter Tryz.func66,Tryz.ntmps66
 go_wp2_with fail
 refine (zde v xs _ (hv.ext e0) hx.c).mono ?_;rintro e w1 ⟨h1,rfl,e1,hw1⟩
 rw [HL.o] at hw1;obtain ⟨⟨d0,d1,d2,d3⟩,_⟩:=HC.o w1 e1;go_wp2_with fail
 refine (zeK h1 l k a o n w1 hw1 hok hc).mono ?_;rintro e w2 ⟨⟨u,rfl,_,_⟩,e2⟩
 clear d0 d1 d2 d3;generalize hD:doR l ⟨k,a,o,n⟩=D at *;have HD:Hid (doR l ⟨k,a,o,n⟩=D):=hD;clear hD;obtain ⟨D1,D2,D3⟩:=D;simp only [] at he;have hb:(D2 != 0)=true:=by simpa using he
 clear he;obtain ⟨_,hbx⟩:=HC.o (w2.alloc (.cells #[I D2,I D3] 39)) (e1.trans (e2.trans ((Ext.refl w2).alloc _)));have m3:=e0.trans (e1.trans (e2.trans ((Ext.refl w2).alloc (.cells #[I D2,I D3] 39))));obtain ⟨x0,x1,f0,f1⟩:=zaL hbx (Ext.refl _);obtain ⟨_,hbx2⟩:=HC.o w2 (e1.trans e2);obtain ⟨y0,y1,g0,g1⟩:=zaL hbx2 (Ext.refl _);have hbs:w.heap.size+1 < w2.heap.size:=(Array.getElem?_eq_some_iff.1 hbx2).1;go_wp2_with fail
 go_region
 have hm:Ext w w2:=e0.trans (e1.trans e2);have hend:Ext w (((w2.setCell ⟨w.heap.size+1,0,none⟩ (I D2)).setCell ⟨w.heap.size+1,1,none⟩ (I D3)).alloc (.cells #[I D2,I D3] 39)).drew:=(((hm.setCell (by simp only []; omega) _).setCell (by simp only []; omega) _).alloc _).drew;go_wp2
 try simp only [Exit.inBlock,Exit.then]
 refine bodyPost_ret (by simp [results,Tryz.results66,go_sem,y0,y1,hbs]; rfl) rfl ?_;refine ⟨⟨.slice none 0 0,?_,?_⟩,hend⟩
 ·rw [<- zmi,HD.o]
 ·rw [HP.o]; exact Has.nil _ _

end Go.Proofs.YtdmipnnfoolelafGreat

/- Texts of the proof, merged: R1 R2 R3 R4 R5 R6 R7. -/
import Derived.Test.YtdmipnnfoolelagGreatKTA
import Derived.Test.YtdmipnnfoolelagGreatKTH
set_option maxHeartbeats 2000000
set_option maxRecDepth 100000

namespace Go.Proofs.YtdmipnnfoolelagGreat
open Go.RowKit Go.Mk

def zcg (l:List (Int×Int)) (name n:Int):List (Int×Int):=l.map fun p=>if p.1=name then (p.1,n) else p

theorem zox (l:List (Int×Int)) (p:Int×Int) (name n:Int):zcg (l++[p]) name n=zcg l name n++[if p.1=name then (p.1,n) else p]:=by simp [zcg]

theorem zbJ (l:List (Int×Int)) (name n:Int):(zcg l name n).length=l.length:=by simp [zcg]

theorem zkv {l:List (Int×Int)} (h:Okn l) {name:Int} (ha:at1 l name < l.length) (n:Int):zcg l name n=zct l (at1 l name) n:=by
 refine zhK (by rw [zbJ,zaQ]) fun j hj=>?_
 rw [zbJ] at hj
 rw [zdQ _ _ _ _ ha]
 have e:(zcg l name n).getD j (0,0)=if (l.getD j (0,0)).1=name then ((l.getD j (0,0)).1,n) else l.getD j (0,0):=by
  simp [zcg,List.getD_eq_getElem?_getD,hj]
 rw [e]
 by_cases hn:(l.getD j (0,0)).1=name
 ·have:at1 l name=j:=h.uni ha hj (by rw [zdj ha,hn])
  rw [if_pos hn,if_pos this]
 ·have:at1 l name≠j:=fun e=>hn (by rw [<- e]; exact zdj ha)
  rw [if_neg hn,if_neg this]

theorem zoV {l:List (Int×Int)} {name:Int} (ha:¬ at1 l name < l.length) (n:Int):zcg l name n=l:=by
 have e:at1 l name=l.length:=by have:=ziY l name; omega
 refine zhK (zbJ _ _ _) fun j hj=>?_
 rw [zbJ] at hj
 have hn:(l.getD j (0,0)).1≠name:=zdN (by omega)
 simp [zcg,List.getD_eq_getElem?_getD,hj] at hn ⊢
 intro h
 exact absurd h hn

def zrH (l:List (Int×Int)) (name:Int):Int:=if at1 l name < l.length then num l (at1 l name) else 0

def isR (l:List (Int×Int)) (name:Int):Bool:=decide (at1 l name < l.length)

def zii (l:List (Int×Int)) (name:Int) (k:Nat):Bool:=decide (at1 l name < k)

theorem zeP {l:List (Int×Int)} {name:Int} (h:at1 l name < l.length):zrH l name=num l (at1 l name):=if_pos h

theorem zfM {l:List (Int×Int)} {name:Int} (h:at1 l name < l.length):isR l name=true:=decide_eq_true h

theorem zgQ {l:List (Int×Int)} {name:Int} (h:¬ at1 l name < l.length):zrH l name=0:=if_neg h

theorem zhJ {l:List (Int×Int)} {name:Int} (h:¬ at1 l name < l.length):isR l name=false:=decide_eq_false h

theorem zeq (v:Value) (l:List (Int×Int)) (name:Int) (w:World) (hv:zaw w v l) :
  Calls Tryz.prog 38 #[v,I name] w fun e w'=>e=.returned (.tuple #[I (zrH l name),.bool (isR l name)])/\Ext w w':=by
 obtain ⟨ao,cap,rfl,h1,h2,h3⟩:=hv.form;unfold maxLen at h2;clear hv;go_enter Tryz.func38,Tryz.ntmps38
 go_wp2
 go_loopw [10] (fun i wr=>∃ k:Nat,k<=l.length/\i=I k/\(∀ j,j < k->(l.getD j (0,0)).1≠name)/\Ext w wr) (fun i _=>l.length - (intOf i).toNat)
 case atStart=>exact ⟨0,by omega,rfl,fun j hj=>by omega,Ext.refl w⟩
 case round =>
  obtain ⟨k,hk,rfl,hf,he⟩:=hrel;have HF:Hid (∀ j,j < k->(l.getD j (0,0)).1≠name):=hf;clear hf;by_cases hlt:k < l.length
  ·obtain ⟨b,off,rfl,hc1,hc2⟩:=h3 k hlt;clear h3;have hd1:=he.cell hc1;have hd2:=he.cell hc2;clear hc1 hc2;generalize hp:l.getD k (0,0)=p at hd1 hd2;have HP:Hid (l.getD k (0,0)=p):=hp;clear hp;obtain ⟨at_,n⟩:=p;simp only [] at hd1 hd2;by_cases hn:at_=name
   ·have hb:(at_ == name)=true:=by simp [hn]
    have HN:Hid (at_=name):=hn;clear hn;go_wp2
    go_ret2
    have:=ziO hlt (by rw [HP.o]; exact HN.o) HF.o;refine ⟨?_,he.alloc _⟩;have hnum:num l k=n:=by unfold num; rw [HP.o]
    rw [zeP (by omega),zfM (by omega),this,hnum];rfl
   ·have hb:(at_ == name)=false:=by simpa using hn
    have HN:Hid (at_≠name):=hn;clear hn;go_wp2
    go_roundw
    case rel =>
     refine ⟨k+1,by omega,by go_num,fun j hj=>?_,he.alloc _⟩;by_cases hjk:j < k
     ·exact HF.o j hjk
     ·rw [show j=k by omega,HP.o]; exact HN.o
    case measure=>simp [intOf]; omega
  ·go_wp2
   go_ret2
   have:=zgn (l:=l) (name:=name) (fun j hj=>HF.o j (by omega));refine ⟨?_,he⟩;rw [zgQ (by omega),zhJ (by omega)];rfl

def zk3 (l:List (Int×Int)) (name n:Int):List (Int×Int):=zcg l name n++if at1 l name < l.length then [] else [(name,n)]

theorem zgj {l:List (Int×Int)} {name n:Int} (h:at1 l name < l.length):zk3 l name n=zcg l name n:=by unfold zk3; rw [if_pos h,List.append_nil]

theorem zkx {l:List (Int×Int)} {name n:Int} (h:¬ at1 l name < l.length):zk3 l name n=zcg l name n++[(name,n)]:=by unfold zk3; rw [if_neg h]

theorem zgB (v:Value) (l:List (Int×Int)) (name n:Int) (w:World) (hv:zaw w v l) (hr:(l.length+1) * 16<=140737488355328) :
  Calls Tryz.prog 40 #[v,I name,I n] w fun e w'=>∃ r,e=.returned r/\Ext w w'/\Has w.heap.size w' r (zk3 l name n):=by
 obtain ⟨i0,hi,hz0,hz1,hz2⟩:=info_parts Tryz.infoWrite2;obtain ⟨ao,cap,rfl,h1,h2,h3⟩:=hv.form;unfold maxLen at h2;clear hv;go_enter Tryz.func40,Tryz.ntmps40
 go_wp2
 go_loopw [7,8,13] (fun o d i wr=>∃ k:Nat,k<=l.length/\i=I k/\d=.bool (zii l name k)/\wr.ownsRow w.heap.size 73 2 o k (zaz (zcg (l.take k) name n))/\Ext w wr) (fun _ _ i _=>l.length - (intOf i).toNat)
 case atStart=>exact ⟨0,by omega,rfl,by simp [zii],World.ownsRow_nil _ _ _ _,Ext.refl w⟩
 case round =>
  obtain ⟨k,hk,rfl,rfl,ho,he⟩:=hrel;by_cases hlt:k < l.length
  ·obtain ⟨b,off,rfl,hc1,hc2⟩:=h3 k hlt;clear h3;have hd1:=he.cell hc1;have hd2:=he.cell hc2;clear hc1 hc2;have HB:Hid ((l.getD k (0,0)).1=name->at1 l name<=k):=fun h=>Nat.le_of_not_lt fun hlt=>zdN hlt h;have HB2:Hid ((l.getD k (0,0)).1≠name->at1 l name≠k):=fun h e=>h (by rw [<- e]; exact zdj (by omega))
   have HT:Hid (zcg (l.take (k+1)) name n=zcg (l.take k) name n++[if (l.getD k (0,0)).1=name then ((l.getD k (0,0)).1,n) else l.getD k (0,0)]):=by
    unfold Hid;rw [List.take_add_one,List.getElem?_eq_getElem hlt,List.getD_eq_getElem?_getD,List.getElem?_eq_getElem hlt];exact zox _ _ _ _
   generalize l.getD k (0,0)=p at *;obtain ⟨at_,m⟩:=p;simp only [] at hd1 hd2 HB HB2 HT;by_cases hn:at_=name
   ·have hb:(at_ == name)=true:=by simp [hn]
    have HN:Hid (at_=name):=hn;clear hn;go_wp2_with (at_builtin; refine zbv ?_)
    unfold Hid;refine zay _ rfl (.tmp 23) (.tmp 25) 28 rfl w.heap.size 73 i0 (.agg #[.int .i64 0,.int .i64 0]) 2 16 zfz hi hz0 hz1 hz2 rfl (by decide) u7 k (zaz (zcg (l.take k) name n)) rfl ((ho.alloc _).alloc _) _ rfl 1 [I at_,I n] (zdT _ _ [(at_,n)] _ 1 rfl rfl (by decide)) (zbD [(at_,n)]) (by omega) (by decide) (by have:=he.size; simp; omega) ?_;intro o' w3 ho3 hg3;have he3:Ext w w3:=((he.alloc _).alloc _).grown hg3 (fun j hj=>(ho.lt j hj).1);clear hg3;go_wp2
    go_roundw
    case rel =>
     refine ⟨k+1,by omega,by go_num,?_,?_,he3⟩
     ·have:=HB.o HN.o;simp [zii]; omega
     ·rw [HT.o,if_pos HN.o,zbf]; exact ho3
    case measure=>simp [intOf]; omega
   ·have hb:(at_ == name)=false:=by simpa using hn
    have HN:Hid (at_≠name):=hn;clear hn;go_wp2_with (at_builtin; refine zbv ?_)
    unfold Hid;refine zay _ rfl (.tmp 23) (.tmp 25) 28 rfl w.heap.size 73 i0 (.agg #[.int .i64 0,.int .i64 0]) 2 16 zfz hi hz0 hz1 hz2 rfl (by decide) u7 k (zaz (zcg (l.take k) name n)) rfl ((ho.alloc _).alloc _) _ rfl 1 [I at_,I m] (zdT _ _ [(at_,m)] _ 1 rfl rfl (by decide)) (zbD [(at_,m)]) (by omega) (by decide) (by have:=he.size; simp; omega) ?_;intro o' w3 ho3 hg3;have he3:Ext w w3:=((he.alloc _).alloc _).grown hg3 (fun j hj=>(ho.lt j hj).1);clear hg3;go_wp2
    go_roundw
    case rel =>
     refine ⟨k+1,by omega,by go_num,?_,?_,he3⟩
     ·have:=HB2.o HN.o;simp [zii]; omega
     ·rw [HT.o,if_neg HN.o,zbf]; exact ho3
    case measure=>simp [intOf]; omega
  ·have hkl:k=l.length:=by omega
   subst hkl;rw [List.take_of_length_le (Nat.le_refl _)] at ho;by_cases ha:at1 l name < l.length
   ·have hse:zii l name l.length=true:=by simp [zii,ha]
    go_wp2
    go_ret
    refine ⟨_,rfl,he,?_⟩;rw [zgj ha];exact ⟨_,_,_,ho,fun w2 h2=>zaA h2⟩
   ·have hse:zii l name l.length=false:=by simp [zii]; omega
    go_wp2_with (at_builtin; refine zbv ?_)
    unfold Hid;refine zay _ rfl (.tmp 30) (.tmp 34) 28 rfl w.heap.size 73 i0 (.agg #[.int .i64 0,.int .i64 0]) 2 16 zfz hi hz0 hz1 hz2 rfl (by decide) u7 l.length (zaz (zcg l name n)) rfl (ho.alloc _) _ rfl 1 [I name,I n] (zcN (l:=[(name,n)]) _ _ 1 rfl rfl (by decide)) (zbD [(name,n)]) (by omega) (by decide) (by have:=he.size; simp; omega) ?_;intro o' w3 ho3 hg3;have he3:Ext w w3:=(he.alloc _).grown hg3 (fun j hj=>(ho.lt j hj).1);clear hg3;go_wp2
    go_ret
    refine ⟨_,rfl,he3,?_⟩;rw [zkx ha];rw [show zaz (zcg l name n)++[I name,I n]=zaz (zcg l name n++[(name,n)]) from (zbf _ [(name,n)]).symm] at ho3;exact ⟨_,_,_,ho3,fun w2 h2=>zaA h2⟩

open Go.RowKit Go.Mk

theorem zoS {l:List (Int×Int)} {name:Int} (ha:¬ at1 l name < l.length) (n:Int):zk3 l name n=l++[(name,n)]:=by rw [zkx ha,zoV ha]

theorem ze9 (b:Nat) (v:Value) (e:Int) (w:World) (hb:w.cell? ⟨b,0,none⟩=some v) (hbl:b < w.heap.size) :
  Calls Tryz.prog 39 #[I e,.pointer (some ⟨b,0,none⟩)] w fun x w'=>x=.returned (.tuple #[v,.agg #[I e,I 0]])/\Ext w w':=by
 go_enter Tryz.func39,Tryz.ntmps39
 go_wp2
 go_returns
 exact ⟨rfl,(Ext.refl w).alloc _⟩

def zdl (l:List (Int×Int)) (a:Int):List (Int×Int):=(l.map fun p=>if p.1=a then l.getD (l.length - 1) (0,0) else p).take (l.length - 1)
def doR (l:List (Int×Int)) (c:Cl):List (Int×Int)×Rp :=
 if c.kind=5 then (l,⟨0,l.length⟩)
 else if c.kind=1 then
  if at1 l c.name < l.length then (zcg l c.name c.n,⟨0,num l (at1 l c.name)⟩)
  else if 5<=l.length then (l,⟨9,0⟩) else (l++[(c.name,c.n)],⟨0,0⟩)
 else if ¬ at1 l c.name < l.length then (l,⟨6,0⟩)
 else if c.kind=2 then (l,⟨0,num l (at1 l c.name)⟩)
 else if c.kind=3 then (zdl l c.name,⟨0,num l (at1 l c.name)⟩)
 else if c.kind=4 then
  if ¬ (-1073741824<=num l (at1 l c.name)+c.n/\num l (at1 l c.name)+c.n<=1073741824) then (l,⟨3,0⟩)
  else (zcg l c.name (num l (at1 l c.name)+c.n),⟨0,num l (at1 l c.name)+c.n⟩)
 else if ¬ at1 l c.other < l.length then (l,⟨6,0⟩)
 else (zcg (zcg l c.name (num l (at1 l c.other))) c.other (num l (at1 l c.name)),⟨0,num l (at1 l c.other)⟩)
theorem zkt (l:List (Int×Int)) (a o n:Int):doR l ⟨5,a,o,n⟩=(l,⟨0,l.length⟩):=rfl
theorem zhv (l:List (Int×Int)) (a o n:Int):doR l ⟨1,a,o,n⟩=if at1 l a < l.length then (zcg l a n,⟨0,num l (at1 l a)⟩) else if 5<=l.length then (l,⟨9,0⟩) else (l++[(a,n)],⟨0,0⟩):=rfl
theorem zkO (l:List (Int×Int)) (a o n:Int):doR l ⟨2,a,o,n⟩=if ¬ at1 l a < l.length then (l,⟨6,0⟩) else (l,⟨0,num l (at1 l a)⟩):=rfl
theorem zjM (l:List (Int×Int)) (a o n:Int):doR l ⟨3,a,o,n⟩=if ¬ at1 l a < l.length then (l,⟨6,0⟩) else (zdl l a,⟨0,num l (at1 l a)⟩):=rfl
theorem zhy (l:List (Int×Int)) (a o n:Int):doR l ⟨4,a,o,n⟩=if ¬ at1 l a < l.length then (l,⟨6,0⟩) else if ¬ (-1073741824<=num l (at1 l a)+n/\num l (at1 l a)+n<=1073741824) then (l,⟨3,0⟩) else (zcg l a (num l (at1 l a)+n),⟨0,num l (at1 l a)+n⟩):=rfl
theorem zgG (l:List (Int×Int)) (a b n:Int):doR l ⟨6,a,b,n⟩=if ¬ at1 l a < l.length then (l,⟨6,0⟩) else if ¬ at1 l b < l.length then (l,⟨6,0⟩)
 else (zcg (zcg l a (num l (at1 l b))) b (num l (at1 l a)),⟨0,num l (at1 l b)⟩):=rfl
theorem zls (l:List (Int×Int)) (c:Cl):(doR l c).2=(zbk l c).2:=by
 unfold doR zbk
 repeat' split
 all_goals rfl
theorem zee (l:List (Int×Int)) (name n:Int) (j:Nat) (hj:j < l.length):(zcg l name n).getD j (0,0)=if (l.getD j (0,0)).1=name then ((l.getD j (0,0)).1,n) else l.getD j (0,0):=by
 simp [zcg,List.getD_eq_getElem?_getD,hj]
theorem zpV (l:List (Int×Int)) (name n x:Int):at1 (zcg l name n) x=at1 l x:=by
 have hf:∀ j,j < l.length->((zcg l name n).getD j (0,0)).1=(l.getD j (0,0)).1:=fun j hj=>by
  rw [zee _ _ _ _ hj]; split <;> rfl
 by_cases h:at1 l x < l.length
 ·refine ziO (by rw [zbJ]; exact h) (by rw [hf _ h]; exact zdj h) (fun j hj=>by rw [hf _ (by omega)]; exact zdN hj)
 ·have e:at1 l x=l.length:=by have:=ziY l x; omega
  rw [e,<- zbJ l name n]
  refine zgn fun j hj=>?_
  rw [zbJ] at hj
  rw [hf _ hj]
  exact zdN (by omega)
theorem zd1 (l:List (Int×Int)) (a:Int):(zdl l a).length=l.length - 1:=by simp [zdl]
theorem zhe (l:List (Int×Int)) (a:Int) (j:Nat) (hj:j < l.length - 1):(zdl l a).getD j (0,0)=if (l.getD j (0,0)).1=a then l.getD (l.length - 1) (0,0) else l.getD j (0,0):=by
 have h2:j < l.length:=by omega
 unfold zdl
 rw [List.getD_eq_getElem?_getD,List.getElem?_take,if_pos hj,List.getElem?_map,List.getElem?_eq_getElem h2]
 simp [List.getD_eq_getElem?_getD,h2]
theorem zrI {l:List (Int×Int)} (h:Okn l) (c:Cl):doR l c=zbk l c:=by
 have hs:∀ a n,at1 l a < l.length->zcg l a n=zct l (at1 l a) n:=fun a n ha=>zkv h ha n
 have hd:∀ a,at1 l a < l.length->zdl l a=(l.set (at1 l a) (l.getD (l.length - 1) (0,0))).take (l.length - 1):=fun a ha=>by
  refine zhK (by rw [zd1,zcV]) fun j hj=>?_
  rw [zd1] at hj
  rw [zhe _ _ _ hj,zd5 _ _ _ ha hj]
  by_cases hn:(l.getD j (0,0)).1=a
  ·rw [if_pos hn,if_pos (h.uni ha (by omega) (by rw [zdj ha,hn]))]
  ·rw [if_neg hn,if_neg (fun e=>hn (by rw [<- e]; exact zdj ha))]
 unfold doR zbk
 by_cases k5:c.kind=5
 ·rw [if_pos k5,if_pos k5]
 rw [if_neg k5,if_neg k5]
 by_cases ha:at1 l c.name < l.length
 ·rw [if_pos ha,if_pos ha,hs _ _ ha,hd _ ha]
  by_cases hb:at1 l c.other < l.length
  ·have h2:zcg (zct l (at1 l c.name) (num l (at1 l c.other))) c.other (num l (at1 l c.name))=zct (zct l (at1 l c.name) (num l (at1 l c.other))) (at1 l c.other) (num l (at1 l c.name)):=by
    have hm:=(h.at hb).2.2
    have q:=zkv (zgp h ha hm.1 hm.2) (name:=c.other) (by rw [zl9 _ _ _ ha,zaQ]; exact hb) (num l (at1 l c.name))
    rwa [zl9 _ _ _ ha] at q
   rw [hs _ _ ha,hs _ _ ha,h2]
  ·rw [if_pos hb,if_pos hb,hs _ _ ha]
 ·rw [if_neg ha,if_neg ha,if_pos ha,if_pos ha]

def zgw (w:World) (v:Value) (l:List (Int×Int)) (c:Cl) (e:Ending) (w':World):Prop :=
 ∃ u,e=.returned (.tuple #[u,(doR l c).2.val])/\zaw w' u (doR l c).1/\∀ base,base<=w.heap.size->Has base w v l->Has base w' u (doR l c).1
theorem zcK {w w':World} {l:List (Int×Int)} {c:Cl} {v:Value} {r:Rp} (h:doR l c=(l,r)) (hv:zaw w v l) (he:Ext w w'):zgw w v l c (.returned (.tuple #[v,r.val])) w':=by
 refine ⟨v,?_,?_,fun base _ hh=>?_⟩ <;> rw [h]
 ·exact hv.ext he
 ·exact hh.ext he
theorem zfl {w w':World} {l l':List (Int×Int)} {c:Cl} {u v:Value} {r:Rp} {b:Nat} (h:doR l c=(l',r)) (hu:Has b w' u l') (hb:w.heap.size<=b):zgw w v l c (.returned (.tuple #[u,r.val])) w':=by
 refine ⟨u,?_,?_,fun base hle _=>?_⟩ <;> rw [h]
 ·exact hu.writes
 ·exact hu.low (Nat.le_trans hle hb)

theorem zmU {w:World} {x:Value} {k a o n:Int} (wx:World) (hx:Ext (((w.alloc (.cells #[x] 28)).alloc (.cells #[I k,I a,I o,I n] 35)).alloc (.cells #[I 0,I 0] 40)) wx) :
   wx.cell? ⟨w.heap.size,0,none⟩=some x/\wx.cell? ⟨w.heap.size+1,0,none⟩=some (I k)/\wx.cell? ⟨w.heap.size+1,1,none⟩=some (I a)/\wx.cell? ⟨w.heap.size+1,2,none⟩=some (I o)/\wx.cell? ⟨w.heap.size+1,3,none⟩=some (I n) /\
   wx.cell? ⟨w.heap.size+1+1,0,none⟩=some (I 0)/\wx.cell? ⟨w.heap.size+1+1,1,none⟩=some (I 0)/\wx.heap[w.heap.size+1+1]?=some (.cells #[I 0,I 0] 40)/\Ext w wx:=by
 have hb:(((w.alloc (.cells #[x] 28)).alloc (.cells #[I k,I a,I o,I n] 35)).alloc (.cells #[I 0,I 0] 40)).heap[w.heap.size+1+1]?=some (.cells #[I 0,I 0] 40):=by
  have:=heap_alloc_new ((w.alloc (.cells #[x] 28)).alloc (.cells #[I k,I a,I o,I n] 35)) (.cells #[I 0,I 0] 40)
  simpa using this
 have p0:(((w.alloc (.cells #[x] 28)).alloc (.cells #[I k,I a,I o,I n] 35)).alloc (.cells #[I 0,I 0] 40)).heap[w.heap.size]?=some (.cells #[x] 28):=by
  rw [heap_alloc_old _ _ (by simp; omega),heap_alloc_old _ _ (by simp)]
  exact heap_alloc_new _ _
 have p1:(((w.alloc (.cells #[x] 28)).alloc (.cells #[I k,I a,I o,I n] 35)).alloc (.cells #[I 0,I 0] 40)).heap[w.heap.size+1]?=some (.cells #[I k,I a,I o,I n] 35):=by
  rw [heap_alloc_old _ _ (by simp)]
  have:=heap_alloc_new (w.alloc (.cells #[x] 28)) (.cells #[I k,I a,I o,I n] 35)
  simpa using this
 refine ⟨hx.cell (zaS p0 rfl),hx.cell (zaS p1 rfl),hx.cell (zaS p1 rfl),hx.cell (zaS p1 rfl),hx.cell (zaS p1 rfl),hx.cell (zaS hb rfl),hx.cell (zaS hb rfl),?_,((((Ext.refl w).alloc _).alloc _).alloc _).trans hx⟩
 rw [hx.block _ (by simp)]
 exact hb

theorem zhR (v:Value) (l:List (Int×Int)) (k a o n:Int) (w:World) (hv:zaw w v l) (hl:Okw l) (hk:k=2∨k=3∨k=4∨k=6) (ha:¬ at1 l a < l.length) :
  Calls Tryz.prog 19 #[v,.agg #[I k,I a,I o,I n]] w fun e w'=>zgw w v l ⟨k,a,o,n⟩ e w'/\Ext w w':=by
 have hmf:=zdK;have hl5:=hl.len;obtain ⟨ao,cap,rfl,g1,g2,g3⟩:=hv.form;unfold maxLen at g2;have H3:Hid _:=g3;clear g3;go_enter Tryz.func19,Tryz.ntmps19
 go_wp2_with fail
 refine Calls.exts (zeq _ l a _ (hv.ext ((((Ext.refl w).alloc _).alloc _).alloc _))) (fun w1 e1=>?_);obtain ⟨s0,q0,q1,q2,q3,x0,x1,hbx,hw1⟩:=zmU w1 e1;obtain ⟨_,_,f0,f1⟩:=zaI hbx (Ext.refl w1);have hv1:=hv.ext hw1;have hbs:w.heap.size+1+1 < w1.heap.size:=(Array.getElem?_eq_some_iff.1 hbx).1;have hz:=zhJ ha;have hz2:=zgQ ha;rw [hz,hz2];clear hz hz2;rcases hk with rfl | rfl | rfl | rfl
 ·go_wp2_with fail
  refine Calls.exts (ze9 _ _ _ _ s0 (zdJ s0)) (fun w2 e2=>?_);obtain ⟨x0,x1,f0,f1⟩:=zaI hbx e2;have m2:=hw1.trans e2;go_wp2
  try simp only [Exit.inBlock,Exit.then]
  refine bodyPost_ret (by simp [results,Tryz.results19,go_sem,x0,x1]; rfl) rfl ?_;exact ⟨zcK (r:=⟨6,0⟩) (by rw [zkO,if_pos ha]) hv ((m2.setCell (by simp only []; omega) _).setCell (by simp only []; omega) _),(m2.setCell (by simp only []; omega) _).setCell (by simp only []; omega) _⟩
 ·go_wp2_with fail
  refine Calls.exts (ze9 _ _ _ _ s0 (zdJ s0)) (fun w2 e2=>?_);obtain ⟨x0,x1,f0,f1⟩:=zaI hbx e2;have m2:=hw1.trans e2;go_wp2
  try simp only [Exit.inBlock,Exit.then]
  refine bodyPost_ret (by simp [results,Tryz.results19,go_sem,x0,x1]; rfl) rfl ?_;exact ⟨zcK (r:=⟨6,0⟩) (by rw [zjM,if_pos ha]) hv ((m2.setCell (by simp only []; omega) _).setCell (by simp only []; omega) _),(m2.setCell (by simp only []; omega) _).setCell (by simp only []; omega) _⟩
 ·go_wp2_with fail
  refine Calls.exts (ze9 _ _ _ _ s0 (zdJ s0)) (fun w2 e2=>?_);obtain ⟨x0,x1,f0,f1⟩:=zaI hbx e2;have m2:=hw1.trans e2;go_wp2
  try simp only [Exit.inBlock,Exit.then]
  refine bodyPost_ret (by simp [results,Tryz.results19,go_sem,x0,x1]; rfl) rfl ?_;exact ⟨zcK (r:=⟨6,0⟩) (by rw [zhy,if_pos ha]) hv ((m2.setCell (by simp only []; omega) _).setCell (by simp only []; omega) _),(m2.setCell (by simp only []; omega) _).setCell (by simp only []; omega) _⟩
 ·go_wp2_with fail
  refine Calls.exts (ze9 _ _ _ _ s0 (zdJ s0)) (fun w2 e2=>?_);obtain ⟨x0,x1,f0,f1⟩:=zaI hbx e2;have m2:=hw1.trans e2;go_wp2
  try simp only [Exit.inBlock,Exit.then]
  refine bodyPost_ret (by simp [results,Tryz.results19,go_sem,x0,x1]; rfl) rfl ?_;exact ⟨zcK (r:=⟨6,0⟩) (by rw [zgG,if_pos ha]) hv ((m2.setCell (by simp only []; omega) _).setCell (by simp only []; omega) _),(m2.setCell (by simp only []; omega) _).setCell (by simp only []; omega) _⟩

open Go.RowKit Go.Mk

theorem zks (v:Value) (l:List (Int×Int)) (a o n:Int) (w:World) (hv:zaw w v l) (hl:Okw l) :
  Calls Tryz.prog 19 #[v,.agg #[I 5,I a,I o,I n]] w fun e w'=>zgw w v l ⟨5,a,o,n⟩ e w'/\Ext w w':=by
 have hmf:=zdK;have hl5:=hl.len;obtain ⟨ao,cap,rfl,g1,g2,g3⟩:=hv.form;unfold maxLen at g2;have H3:Hid _:=g3;clear g3;go_enter Tryz.func19,Tryz.ntmps19
 go_wp2_with fail
 refine Calls.exts (zeq _ l a _ (hv.ext ((((Ext.refl w).alloc _).alloc _).alloc _))) (fun w1 e1=>?_);obtain ⟨s0,q0,q1,q2,q3,x0,x1,hbx,hw1⟩:=zmU w1 e1;obtain ⟨_,_,f0,f1⟩:=zaI hbx (Ext.refl w1);have hv1:=hv.ext hw1;have hbs:w.heap.size+1+1 < w1.heap.size:=(Array.getElem?_eq_some_iff.1 hbx).1;go_wp2_with fail
 go_region
 go_wp2
 try simp only [Exit.inBlock,Exit.then]
 refine bodyPost_ret (by simp [results,Tryz.results19,go_sem,x0,x1]; rfl) rfl ?_;exact ⟨zcK (r:=⟨0,l.length⟩) (by rw [zkt]) hv ((hw1.setCell (by simp only []; omega) _).setCell (by simp only []; omega) _).drew,((hw1.setCell (by simp only []; omega) _).setCell (by simp only []; omega) _).drew⟩

theorem znQ (v:Value) (l:List (Int×Int)) (a o n:Int) (w:World) (hv:zaw w v l) (hl:Okw l) :
  Calls Tryz.prog 19 #[v,.agg #[I 1,I a,I o,I n]] w fun e w'=>zgw w v l ⟨1,a,o,n⟩ e w'/\Ext w w':=by
 have hmf:=zdK;have hl5:=hl.len;obtain ⟨ao,cap,rfl,g1,g2,g3⟩:=hv.form;unfold maxLen at g2;have H3:Hid _:=g3;clear g3;go_enter Tryz.func19,Tryz.ntmps19
 go_wp2_with fail
 refine Calls.exts (zeq _ l a _ (hv.ext ((((Ext.refl w).alloc _).alloc _).alloc _))) (fun w1 e1=>?_);obtain ⟨s0,q0,q1,q2,q3,x0,x1,hbx,hw1⟩:=zmU w1 e1;obtain ⟨_,_,f0,f1⟩:=zaI hbx (Ext.refl w1);have hv1:=hv.ext hw1;have hbs:w.heap.size+1+1 < w1.heap.size:=(Array.getElem?_eq_some_iff.1 hbx).1;by_cases ha:at1 l a < l.length
 case neg =>
  have hz:=zhJ ha;have hz2:=zgQ ha;rw [hz,hz2];clear hz hz2;by_cases h5:5<=l.length
  ·have h5':(5:Int)<=(l.length:Int):=by omega
   go_wp2_with fail
   refine Calls.exts (ze9 _ _ _ _ s0 (zdJ s0)) (fun w2 e2=>?_);obtain ⟨x0,x1,f0,f1⟩:=zaI hbx e2;have m2:=hw1.trans e2;go_wp2
   try simp only [Exit.inBlock,Exit.then]
   refine bodyPost_ret (by simp [results,Tryz.results19,go_sem,x0,x1]; rfl) rfl ?_;exact ⟨zcK (r:=⟨9,0⟩) (by rw [zhv,if_neg ha,if_pos h5]) hv ((m2.setCell (by simp only []; omega) _).setCell (by simp only []; omega) _),(m2.setCell (by simp only []; omega) _).setCell (by simp only []; omega) _⟩
  ·have h5':(l.length:Int) < 5:=by omega
   go_wp2_with fail
   refine (zgB _ l a n _ hv1 (by omega)).mono ?_;rintro e w2 ⟨r,rfl,e2,hr2⟩
   rw [zoS ha] at hr2;obtain ⟨x0,x1,f0,f1⟩:=zaI hbx e2;have m2:=hw1.trans e2;go_wp2
   try simp only [Exit.inBlock,Exit.then]
   refine bodyPost_ret (by simp [results,Tryz.results19,go_sem,x0,x1]; rfl) rfl ?_;exact ⟨zfl (r:=⟨0,0⟩) (by rw [zhv,if_neg ha,if_neg h5]) ((hr2.set hbs _ _).set hbs _ _) hw1.size,(m2.setCell (by simp only []; omega) _).setCell (by simp only []; omega) _⟩
 have hz:=zfM ha;have hz2:=zeP ha;rw [hz,hz2];clear hz hz2;go_wp2_with fail
 refine (zgB _ l a n _ hv1 (by omega)).mono ?_;rintro e w2 ⟨r,rfl,e2,hr2⟩
 rw [zgj ha] at hr2;obtain ⟨x0,x1,f0,f1⟩:=zaI hbx e2;have m2:=hw1.trans e2;go_wp2
 try simp only [Exit.inBlock,Exit.then]
 refine bodyPost_ret (by simp [results,Tryz.results19,go_sem,x0,x1]; rfl) rfl ?_;exact ⟨zfl (r:=⟨0,num l (at1 l a)⟩) (by rw [zhv,if_pos ha]) ((hr2.set hbs _ _).set hbs _ _) hw1.size,(m2.setCell (by simp only []; omega) _).setCell (by simp only []; omega) _⟩

theorem zqt (v:Value) (l:List (Int×Int)) (a o n:Int) (w:World) (hv:zaw w v l) (hl:Okw l) (ha:at1 l a < l.length) :
  Calls Tryz.prog 19 #[v,.agg #[I 2,I a,I o,I n]] w fun e w'=>zgw w v l ⟨2,a,o,n⟩ e w'/\Ext w w':=by
 have hmf:=zdK;have hl5:=hl.len;obtain ⟨ao,cap,rfl,g1,g2,g3⟩:=hv.form;unfold maxLen at g2;have H3:Hid _:=g3;clear g3;go_enter Tryz.func19,Tryz.ntmps19
 go_wp2_with fail
 refine Calls.exts (zeq _ l a _ (hv.ext ((((Ext.refl w).alloc _).alloc _).alloc _))) (fun w1 e1=>?_);obtain ⟨s0,q0,q1,q2,q3,x0,x1,hbx,hw1⟩:=zmU w1 e1;obtain ⟨_,_,f0,f1⟩:=zaI hbx (Ext.refl w1);have hv1:=hv.ext hw1;have hbs:w.heap.size+1+1 < w1.heap.size:=(Array.getElem?_eq_some_iff.1 hbx).1;have hz:=zfM ha;have hz2:=zeP ha;rw [hz,hz2];clear hz hz2;go_wp2
 try simp only [Exit.inBlock,Exit.then]
 refine bodyPost_ret (by simp [results,Tryz.results19,go_sem,x0,x1]; rfl) rfl ?_;exact ⟨zcK (r:=⟨0,num l (at1 l a)⟩) (by rw [zkO,if_neg (by simpa using ha)]) hv ((hw1.setCell (by simp only []; omega) _).setCell (by simp only []; omega) _),(hw1.setCell (by simp only []; omega) _).setCell (by simp only []; omega) _⟩

open Go.RowKit Go.Mk

theorem zmS (l:List (Int×Int)) (a:Int) {k:Nat} (hk:k < l.length - 1) :
  (zdl l a).take (k+1)=(zdl l a).take k++[if (l.getD k (0,0)).1=a then l.getD (l.length - 1) (0,0) else l.getD k (0,0)]:=by
 have e:(zdl l a)[k]?=some ((zdl l a).getD k (0,0)):=by
  have:k < (zdl l a).length:=by rw [zd1]; exact hk
  rw [List.getD_eq_getElem?_getD,List.getElem?_eq_getElem this]
  rfl
 rw [List.take_add_one,e,<- zhe _ _ _ hk]
 rfl

theorem zp5 (v:Value) (l:List (Int×Int)) (a o n:Int) (w:World) (hv:zaw w v l) (hl:Okw l) (ha:at1 l a < l.length) :
  Calls Tryz.prog 19 #[v,.agg #[I 3,I a,I o,I n]] w fun e w'=>zgw w v l ⟨3,a,o,n⟩ e w'/\Ext w w':=by
 obtain ⟨i0,hi,hz0,hz1,hz2⟩:=info_parts Tryz.infoWrite2;have hmf:=zdK;have hl5:=hl.len;obtain ⟨ao,cap,rfl,g1,g2,g3⟩:=hv.form;unfold maxLen at g2;have H3:Hid _:=g3;clear g3;go_enter Tryz.func19,Tryz.ntmps19
 go_wp2_with fail
 refine Calls.exts (zeq _ l a _ (hv.ext ((((Ext.refl w).alloc _).alloc _).alloc _))) (fun w1 e1=>?_);obtain ⟨s0,q0,q1,q2,q3,x0,x1,hbx,hw1⟩:=zmU w1 e1;obtain ⟨_,_,f0,f1⟩:=zaI hbx (Ext.refl w1);have hv1:=hv.ext hw1;have hbs:w.heap.size+1+1 < w1.heap.size:=(Array.getElem?_eq_some_iff.1 hbx).1;have hy:=zfM ha;have hy2:=zeP ha;rw [hy,hy2];clear hy hy2;generalize hM:num l (at1 l a)=m0 at *
 have HD:Hid (doR l ⟨3,a,o,n⟩=(zdl l a,⟨0,m0⟩)):=by
  unfold Hid;rw [zjM,if_neg (by simpa using ha),hM]
 clear hM;have hv1f:=hv1.form;obtain ⟨ao',cap',he',_,_,g3⟩:=hv1f;simp only [Value.slice.injEq,true_and] at he';obtain ⟨rfl,rfl⟩:=he';obtain ⟨b,off,rfl,_⟩:=g3 0 (by omega)
 have HC:Hid (∀ j,j < l.length->w1.cell? ⟨b,off+j * 2,none⟩=some (I (l.getD j (0,0)).1)/\w1.cell? ⟨b,off+j * 2+1,none⟩=some (I (l.getD j (0,0)).2)):=fun j hj=>by
  obtain ⟨b',off',e',r1,r2⟩:=g3 j hj;simp only [Option.some.injEq,Addr.mk.injEq,and_true] at e';obtain ⟨rfl,rfl⟩:=e';exact ⟨r1,r2⟩
 clear g3 H3;have HX:Hid (∀ k,k < l.length - 1->(zdl l a).take (k+1)=(zdl l a).take k++[if (l.getD k (0,0)).1=a then l.getD (l.length - 1) (0,0) else l.getD k (0,0)]):=fun k hk=>zmS l a hk;have HLD:Hid ((zdl l a).length=l.length - 1):=zd1 l a;go_wp2_with fail
 go_loopw [9,78] (fun out i wr=>∃ k:Nat,k<=l.length/\i=I k/\wr.ownsRow w1.heap.size 73 2 out (min k (l.length - 1)) (zaz ((zdl l a).take k))/\Ext w1 wr) (fun _ i _=>l.length - (intOf i).toNat)
 case atStart=>exact ⟨0,by omega,rfl,by rw [Nat.zero_min]; exact World.ownsRow_nil _ _ _ _,Ext.refl w1⟩
 case round =>
  obtain ⟨k,hk,rfl,ho,he⟩:=hrel;by_cases hlt:k < l.length
  ·obtain ⟨c1,c2⟩:=HC.o k hlt;obtain ⟨c3,c4⟩:=HC.o (l.length - 1) (by omega);replace c1:=he.cell c1;replace c2:=he.cell c2;have t0:=he.cell s0;have t1:=he.cell q1;have u0:=fun o=>((Ext.refl wr).alloc o).cell t0;have u1:=fun o=>((Ext.refl wr).alloc o).cell t1;have u3:=fun o=>((Ext.refl wr).alloc o).cell (he.cell c3);have u4:=fun o=>((Ext.refl wr).alloc o).cell (he.cell c4);clear c3 c4 t0 t1;have HXk:=HX.o k;have HT:Hid (k < l.length - 1->(zdl l a).take (k+1)=(zdl l a).take k++[if (l.getD k (0,0)).1=a then l.getD (l.length - 1) (0,0) else l.getD k (0,0)]):=HXk;clear HXk;generalize hL:l.length - 1=L at *;have hLi:(l.length:Int) - 1=(L:Int):=by omega
   have hLt:(L:Int) < (l.length:Int):=by omega
   generalize l.getD L (0,0)=q at *;generalize l.getD k (0,0)=p at *;obtain ⟨at_,m⟩:=p;obtain ⟨b_,y⟩:=q;simp only [] at c1 c2 u3 u4 HT;by_cases hn:at_=a
   ·have hb:(at_ == a)=true:=by simp [hn]
    have HN:Hid (at_=a):=hn;clear hn;by_cases hkL:k < L
    ·have hkL':(k:Int) < (L:Int):=by omega
     rw [show min k L=k by omega] at ho;go_wp2_with (at_builtin; refine zbv ?_)
     unfold Hid;refine zay _ rfl (.tmp 99) (.tmp 101) 28 rfl w1.heap.size 73 i0 (.agg #[.int .i64 0,.int .i64 0]) 2 16 zfz hi hz0 hz1 hz2 rfl (by decide) u9 k (zaz ((zdl l a).take k)) rfl ((ho.alloc _).alloc _) _ rfl 1 [I b_,I y] (zdT _ _ [(b_,y)] _ 1 rfl rfl (by decide)) (zbD [(b_,y)]) (by omega) (by decide) (by have:=he.size; simp; omega) ?_;intro o' w3 ho3 hg3;have he3:Ext w1 w3:=((he.alloc _).alloc _).grown hg3 (fun j hj=>(ho.lt j hj).1);clear hg3;go_wp2
     go_roundw
     case rel =>
      refine ⟨k+1,by omega,by go_num,?_,he3⟩;rw [HT.o hkL,if_pos HN.o,zbf,show min (k+1) L=k+1 by omega];exact ho3
     case measure=>simp [intOf]; omega
    ·have hkL':¬ (k:Int) < (L:Int):=by omega
     go_wp2
     go_roundw
     case rel =>
      refine ⟨k+1,by omega,by go_num,?_,he.alloc _⟩;rw [show min (k+1) L=min k L by omega,List.take_of_length_le (by rw [HLD.o]; omega)];rw [List.take_of_length_le (by rw [HLD.o]; omega)] at ho;exact ho.alloc _
     case measure=>simp [intOf]; omega
   ·have hb:(at_ == a)=false:=by simpa using hn
    have HN:Hid (¬ at_=a):=hn;clear hn;by_cases hkL:k < L
    ·have hkL':(k:Int) < (L:Int):=by omega
     rw [show min k L=k by omega] at ho;go_wp2_with (at_builtin; refine zbv ?_)
     unfold Hid;refine zay _ rfl (.tmp 99) (.tmp 101) 28 rfl w1.heap.size 73 i0 (.agg #[.int .i64 0,.int .i64 0]) 2 16 zfz hi hz0 hz1 hz2 rfl (by decide) u9 k (zaz ((zdl l a).take k)) rfl ((ho.alloc _).alloc _) _ rfl 1 [I at_,I m] (zdT _ _ [(at_,m)] _ 1 rfl rfl (by decide)) (zbD [(at_,m)]) (by omega) (by decide) (by have:=he.size; simp; omega) ?_;intro o' w3 ho3 hg3;have he3:Ext w1 w3:=((he.alloc _).alloc _).grown hg3 (fun j hj=>(ho.lt j hj).1);clear hg3;go_wp2
     go_roundw
     case rel =>
      refine ⟨k+1,by omega,by go_num,?_,he3⟩;rw [HT.o hkL,if_neg HN.o,zbf,show min (k+1) L=k+1 by omega];exact ho3
     case measure=>simp [intOf]; omega
    ·have hkL':¬ (k:Int) < (L:Int):=by omega
     go_wp2
     go_roundw
     case rel =>
      refine ⟨k+1,by omega,by go_num,?_,he.alloc _⟩;rw [show min (k+1) L=min k L by omega,List.take_of_length_le (by rw [HLD.o]; omega)];rw [List.take_of_length_le (by rw [HLD.o]; omega)] at ho;exact ho.alloc _
     case measure=>simp [intOf]; omega
  ·rw [List.take_of_length_le (by rw [HLD.o]; omega)] at ho;obtain ⟨x0,x1,f0,f1⟩:=zaI hbx he;have m3:=hw1.trans he;have hh:Has w1.heap.size wr u9 (zdl l a):=⟨_,_,_,ho,fun w2 h2=>zaA h2⟩;go_wp2
   try simp only [Exit.inBlock,Exit.then]
   refine bodyPost_ret (by simp [results,Tryz.results19,go_sem,x0,x1]; rfl) rfl ?_;exact ⟨zfl (r:=⟨0,m0⟩) HD.o ((hh.set hbs _ _).set hbs _ _) hw1.size,(m3.setCell (by simp only []; omega) _).setCell (by simp only []; omega) _⟩

open Go.RowKit Go.Mk

theorem zqE (v:Value) (l:List (Int×Int)) (a o n:Int) (w:World) (hv:zaw w v l) (hl:Okw l) (ha:at1 l a < l.length) (hn:-1073741824<=n/\n<=1073741824) :
  Calls Tryz.prog 19 #[v,.agg #[I 4,I a,I o,I n]] w fun e w'=>zgw w v l ⟨4,a,o,n⟩ e w'/\Ext w w':=by
 have hmf:=zdK;have hl5:=hl.len;obtain ⟨ao,cap,rfl,g1,g2,g3⟩:=hv.form;unfold maxLen at g2;have H3:Hid _:=g3;clear g3;go_enter Tryz.func19,Tryz.ntmps19
 go_wp2_with fail
 refine Calls.exts (zeq _ l a _ (hv.ext ((((Ext.refl w).alloc _).alloc _).alloc _))) (fun w1 e1=>?_);obtain ⟨s0,q0,q1,q2,q3,x0,x1,hbx,hw1⟩:=zmU w1 e1;obtain ⟨_,_,f0,f1⟩:=zaI hbx (Ext.refl w1);have hv1:=hv.ext hw1;have hbs:w.heap.size+1+1 < w1.heap.size:=(Array.getElem?_eq_some_iff.1 hbx).1;have hz:=zfM ha;have hz2:=zeP ha;rw [hz,hz2];clear hz hz2;have hm:=(hl.at ha).2.2;have hm1:-1073741824<=num l (at1 l a):=hm.1;have hm2:num l (at1 l a)<=1073741824:=hm.2;clear hm;obtain ⟨n1,n2⟩:=hn;generalize hM:num l (at1 l a)=m at *;have HM:Hid (num l (at1 l a)=m):=hM;clear hM;by_cases hs:-1073741824<=m+n/\m+n<=1073741824
 case neg =>
  have hs2:m+n < -1073741824∨1073741824 < m+n:=by omega
  have HNS:Hid (¬ (-1073741824<=m+n/\m+n<=1073741824)):=hs;clear hs;rcases hs2 with hs2 | hs2
  ·go_wp2_with fail
   refine Calls.exts (ze9 _ _ _ _ s0 (zdJ s0)) (fun w2 e2=>?_);obtain ⟨x0,x1,f0,f1⟩:=zaI hbx e2;have m2:=hw1.trans e2;go_wp2
   try simp only [Exit.inBlock,Exit.then]
   refine bodyPost_ret (by simp [results,Tryz.results19,go_sem,x0,x1]; rfl) rfl ?_;exact ⟨zcK (r:=⟨3,0⟩) (by rw [zhy,if_neg (by simpa using ha),HM.o,if_pos HNS.o]) hv ((m2.setCell (by simp only []; omega) _).setCell (by simp only []; omega) _),(m2.setCell (by simp only []; omega) _).setCell (by simp only []; omega) _⟩
  ·go_wp2_with fail
   refine Calls.exts (ze9 _ _ _ _ s0 (zdJ s0)) (fun w2 e2=>?_);obtain ⟨x0,x1,f0,f1⟩:=zaI hbx e2;have m2:=hw1.trans e2;go_wp2
   try simp only [Exit.inBlock,Exit.then]
   refine bodyPost_ret (by simp [results,Tryz.results19,go_sem,x0,x1]; rfl) rfl ?_;exact ⟨zcK (r:=⟨3,0⟩) (by rw [zhy,if_neg (by simpa using ha),HM.o,if_pos HNS.o]) hv ((m2.setCell (by simp only []; omega) _).setCell (by simp only []; omega) _),(m2.setCell (by simp only []; omega) _).setCell (by simp only []; omega) _⟩
 obtain ⟨s1,s2⟩:=hs;have hsum:IntKind.i64.wrap (m+n)=m+n:=by rw [IntKind.wrap_i64]; omega
 have HSET:Hid (zk3 l a (m+n)=zcg l a (m+n)):=zgj ha;go_wp2_with fail
 refine zam 14 [none,none,none,none,none,none,none,some (.inr fun r w'=>Has w1.heap.size w' r (zcg l a (m+n))),none,none,none,none,none,none] (by kernel_rfl) (by kernel_rfl) ?_ ?_
 ·exact ⟨trivial,trivial,trivial,trivial,trivial,trivial,trivial,zfQ _ _,trivial,trivial,trivial,trivial,trivial,trivial,trivial⟩
 refine zaE (.slice ao l.length cap) rfl (fun w' hw'=>by have:=hw'.cell s0; go_simp) ?_;(refine zar (fun K hK=>?_); go_simp; refine hK _ ?_; clear hK K)
 refine zaE (I a) rfl (fun w' hw'=>by have:=hw'.cell q1; go_simp) ?_;iterate 2 (refine zar (fun K hK=>?_); go_simp; refine hK _ ?_; clear hK K)
 refine zaE (I n) rfl (fun w' hw'=>by have:=hw'.cell q3; go_simp) ?_;(refine zar (fun K hK=>?_); go_simp; refine hK _ ?_; clear hK K)
 refine za8 _ rfl (fun w' hw' _=>?_) (fun v134=>?_)
 ·have hg:zaV Tryz.prog 40 #[.slice ao l.length cap,I a,I (m+n)] w' (fun r w''=>Has w1.heap.size w'' r (zcg l a (m+n))) :=
   zaV.mono (zgB _ l a (m+n) w' (hv1.ext hw') (by omega)) (fun r w'' _ h=>by rw [HSET.o] at h; exact h.low hw'.size)
  unfold zaT;go_simp
  exact ⟨Ext.refl _,hg⟩
 iterate 2 (refine zar (fun K hK=>?_); go_simp; refine hK _ ?_; clear hK K)
 refine zaE (I n) rfl (fun w' hw'=>by have:=hw'.cell q3; go_simp) ?_;iterate 3 (refine zar (fun K hK=>?_); go_simp; refine hK _ ?_; clear hK K)
 refine za0 ?_;intro w2 he2 hF;have hr2:Has w1.heap.size w2 v134 (zcg l a (m+n)):=hF 134;clear hF;obtain ⟨x0,x1,f0,f1⟩:=zaI hbx he2;have m2:=hw1.trans he2;go_wp2
 try simp only [Exit.inBlock,Exit.then]
 refine bodyPost_ret (by simp [results,Tryz.results19,go_sem,x0,x1]; rfl) rfl ?_;exact ⟨zfl (r:=⟨0,m+n⟩) (by rw [zhy,if_neg (by simpa using ha),HM.o,if_neg (by simp; omega)]) ((hr2.set hbs _ _).set hbs _ _) hw1.size,(m2.setCell (by simp only []; omega) _).setCell (by simp only []; omega) _⟩

open Go.RowKit Go.Mk

theorem zpS (v:Value) (l:List (Int×Int)) (a o n:Int) (w:World) (hv:zaw w v l) (hl:Okw l) (ha:at1 l a < l.length) :
  Calls Tryz.prog 19 #[v,.agg #[I 6,I a,I o,I n]] w fun e w'=>zgw w v l ⟨6,a,o,n⟩ e w'/\Ext w w':=by
 have hmf:=zdK;have hl5:=hl.len;obtain ⟨ao,cap,rfl,g1,g2,g3⟩:=hv.form;unfold maxLen at g2;have H3:Hid _:=g3;clear g3;go_enter Tryz.func19,Tryz.ntmps19
 go_wp2_with fail
 refine Calls.exts (zeq _ l a _ (hv.ext ((((Ext.refl w).alloc _).alloc _).alloc _))) (fun w1 e1=>?_);obtain ⟨s0,q0,q1,q2,q3,x0,x1,hbx,hw1⟩:=zmU w1 e1;obtain ⟨_,_,f0,f1⟩:=zaI hbx (Ext.refl w1);have hv1:=hv.ext hw1;have hbs:w.heap.size+1+1 < w1.heap.size:=(Array.getElem?_eq_some_iff.1 hbx).1;have hz:=zfM ha;have hz2:=zeP ha;rw [hz,hz2];clear hz hz2;go_wp2_with fail
 refine Calls.exts (zeq _ l o w1 hv1) (fun w2 e2=>?_);replace s0:=e2.cell s0;replace q0:=e2.cell q0;replace q1:=e2.cell q1;replace q2:=e2.cell q2;replace q3:=e2.cell q3;have hbx2:w2.heap[w.heap.size+1+1]?=some (.cells #[I 0,I 0] 40):=by rw [e2.block _ hbs]; exact hbx
 have hw2:=hw1.trans e2;have hv2:=hv1.ext e2;have hbs2:w.heap.size+1+1 < w2.heap.size:=Nat.lt_of_lt_of_le hbs e2.size;clear x0 x1 f0 f1 hv1 hbx hw1 hbs;by_cases hb:at1 l o < l.length
 case neg =>
  rw [zhJ hb,zgQ hb];go_wp2_with fail
  refine Calls.exts (ze9 _ _ _ _ s0 (zdJ s0)) (fun w3 e3=>?_);obtain ⟨x0,x1,f0,f1⟩:=zaI hbx2 e3;have m3:=hw2.trans e3;go_wp2
  try simp only [Exit.inBlock,Exit.then]
  refine bodyPost_ret (by simp [results,Tryz.results19,go_sem,x0,x1]; rfl) rfl ?_;exact ⟨zcK (r:=⟨6,0⟩) (by rw [zgG,if_neg (by simpa using ha),if_pos hb]) hv ((m3.setCell (by simp only []; omega) _).setCell (by simp only []; omega) _),(m3.setCell (by simp only []; omega) _).setCell (by simp only []; omega) _⟩
 rw [zfM hb,zeP hb];have hm:=(hl.at ha).2.2;have hm':=(hl.at hb).2.2;have HS1:Hid (zk3 l a (num l (at1 l o))=zcg l a (num l (at1 l o))):=zgj ha;have HS2:Hid (zk3 (zcg l a (num l (at1 l o))) o (num l (at1 l a))=zcg (zcg l a (num l (at1 l o))) o (num l (at1 l a))):=zgj (by rw [zpV,zbJ]; exact hb)
 have HD:Hid (doR l ⟨6,a,o,n⟩=(zcg (zcg l a (num l (at1 l o))) o (num l (at1 l a)),⟨0,num l (at1 l o)⟩)):=by
  unfold Hid;rw [zgG,if_neg (by simpa using ha),if_neg (by simpa using hb)]
 have hlp:(zcg l a (num l (at1 l o))).length<=5:=by rw [zbJ]; exact hl5
 clear hm hm';generalize zcg (zcg l a (num l (at1 l o))) o (num l (at1 l a))=L2 at *;generalize zcg l a (num l (at1 l o))=L1 at *;generalize num l (at1 l a)=m at *;generalize num l (at1 l o)=m' at *;go_wp2_with fail
 refine zam 12 [none,none,none,none,some (.inr fun r w'=>zaw w' r L1),none,none,none,some (.inr fun r w'=>Has w2.heap.size w' r L2),none,none,none] (by kernel_rfl) (by kernel_rfl) ?_ ?_
 ·exact ⟨trivial,trivial,trivial,trivial,zeU _,trivial,trivial,trivial,zfQ _ _,trivial,trivial,trivial,trivial⟩
 refine zaE (.slice ao l.length cap) rfl (fun w' hw'=>by have:=hw'.cell s0; go_simp) ?_;(refine zar (fun K hK=>?_); go_simp; refine hK _ ?_; clear hK K)
 refine zaE (I a) rfl (fun w' hw'=>by have:=hw'.cell q1; go_simp) ?_;(refine zar (fun K hK=>?_); go_simp; refine hK _ ?_; clear hK K)
 refine za8 _ rfl (fun w' hw' _=>?_) (fun v157=>?_)
 ·have hg:zaV Tryz.prog 40 #[.slice ao l.length cap,I a,I m'] w' (fun r w''=>zaw w'' r L1) :=
   zaV.mono (zgB _ l a m' w' (hv2.ext hw') (by omega)) (fun r w'' _ h=>by rw [HS1.o] at h; exact h.writes)
  unfold zaT;go_simp
  exact ⟨Ext.refl _,hg⟩
 (refine zar (fun K hK=>?_); go_simp; refine hK _ ?_; clear hK K)
 refine zaE (I o) rfl (fun w' hw'=>by have:=hw'.cell q2; go_simp) ?_;(refine zar (fun K hK=>?_); go_simp; refine hK _ ?_; clear hK K)
 refine za8 _ rfl (fun w' hw' hk=>?_) (fun v161=>?_)
 ·have h7:zaw w' v157 L1:=hk 157 (by decide)
  have hg:zaV Tryz.prog 40 #[v157,I o,I m] w' (fun r w''=>Has w2.heap.size w'' r L2) :=
   zaV.mono (zgB _ L1 o m w' h7 (by omega)) (fun r w'' _ h=>by rw [HS2.o] at h; exact h.low hw'.size)
  clear hk h7;unfold zaT;go_simp
  exact ⟨Ext.refl _,hg⟩
 iterate 3 (refine zar (fun K hK=>?_); go_simp; refine hK _ ?_; clear hK K)
 refine za0 ?_;intro w3 he3 hF;have hr2:Has w2.heap.size w3 v161 L2:=hF 161;clear hF;obtain ⟨x0,x1,f0,f1⟩:=zaI hbx2 he3;have m3:=hw2.trans he3;go_wp2
 try simp only [Exit.inBlock,Exit.then]
 refine bodyPost_ret (by simp [results,Tryz.results19,go_sem,x0,x1]; rfl) rfl ?_;exact ⟨zfl (r:=⟨0,m'⟩) HD.o ((hr2.set hbs2 _ _).set hbs2 _ _) hw2.size,(m3.setCell (by simp only []; omega) _).setCell (by simp only []; omega) _⟩

open Go.RowKit Go.Mk

theorem zen (v:Value) (l:List (Int×Int)) (k a o n:Int) (w:World) (hv:zaw w v l) (hl:Okw l) (hc:wrongCl ⟨k,a,o,n⟩=0) :
  Calls Tryz.prog 19 #[v,.agg #[I k,I a,I o,I n]] w fun e w'=>zgw w v l ⟨k,a,o,n⟩ e w'/\Ext w w':=by
 obtain ⟨hk,hn⟩:=zez hc
 by_cases ha:at1 l a < l.length
 ·rcases hk with rfl | rfl | rfl | rfl | rfl | rfl
  ·exact znQ v l a o n w hv hl
  ·exact zqt v l a o n w hv hl ha
  ·exact zp5 v l a o n w hv hl ha
  ·exact zqE v l a o n w hv hl ha (hn (.inr rfl))
  ·exact zks v l a o n w hv hl
  ·exact zpS v l a o n w hv hl ha
 ·rcases hk with rfl | rfl | rfl | rfl | rfl | rfl
  ·exact znQ v l a o n w hv hl
  ·exact zhR v l 2 a o n w hv hl (by simp) ha
  ·exact zhR v l 3 a o n w hv hl (by simp) ha
  ·exact zhR v l 4 a o n w hv hl (by simp) ha
  ·exact zks v l a o n w hv hl
  ·exact zhR v l 6 a o n w hv hl (by simp) ha

def zrS (w:World) (v:Value) (l:List (Int×Int)) (c:Cl) (e:Ending) (w':World):Prop :=
 ∃ u,e=.returned (.tuple #[u,(zbk l c).2.val])/\zaw w' u (zbk l c).1/\∀ base,base<=w.heap.size->Has base w v l->Has base w' u (zbk l c).1
theorem zqH (v:Value) (l:List (Int×Int)) (k a o n:Int) (w:World) (hv:zaw w v l) (hl:Okn l) (hc:wrongCl ⟨k,a,o,n⟩=0) :
  Calls Tryz.prog 19 #[v,.agg #[I k,I a,I o,I n]] w fun e w'=>zrS w v l ⟨k,a,o,n⟩ e w'/\Ext w w' :=
 (zen v l k a o n w hv hl.w hc).mono fun e w' h=>by
  have q:=h
  unfold zgw at q
  rw [zrI hl] at q
  exact q

theorem zpp (v:Value) (l:List Rq) (w:World) (hv:zmZ w v l) (hl:∀ r ∈ l,wrongCl r.call=0) (hr:l.length * 48<=140737488355328) :
  Calls Tryz.prog 8 #[v] w fun e w'=>∃ r,e=.returned r/\Ext w w'/\∃ x y,r=.tuple #[x,y]/\zaw w' x (allCl (l.map Rq.call)).1/\zaw w' y (allCl (l.map Rq.call)).2:=by
 obtain ⟨i0,hi,hz0,hz1,hz2⟩:=info_parts Tryz.infoReply;obtain ⟨ao,cap,rfl,h1,h2,h3⟩:=hv.form;unfold maxLen at h2
 have HOK:Hid (∀ k,Okn (allCl ((l.map Rq.call).take k)).1/\(allCl ((l.map Rq.call).take k)).2.length=min k l.length):=fun k=>by
  have:=zpE (cs:=l.map Rq.call) (fun c hc=>by obtain ⟨r,hr,rfl⟩:=List.mem_map.1 hc; exact hl r hr) k;simpa using this
 have H3:Hid (∀ k r,l[k]?=some r->∃ b off,ao=some ⟨b,off,none⟩/\w.cell? ⟨b,off+k * 6,none⟩=some (I r.client)/\w.cell? ⟨b,off+k * 6+1,none⟩=some (I r.token)/\w.cell? ⟨b,off+k * 6+2,none⟩=some (I r.call.kind) /\
   w.cell? ⟨b,off+k * 6+3,none⟩=some (I r.call.name)/\w.cell? ⟨b,off+k * 6+4,none⟩=some (I r.call.other)/\w.cell? ⟨b,off+k * 6+5,none⟩=some (I r.call.n)):=h3
 clear h3 hv;go_enter Tryz.func8,Tryz.ntmps8
 go_wp2_with fail
 go_loopw [4,5,12] (fun nv sv i wr=>∃ k:Nat,k<=l.length/\i=I k/\wr.ownsRow w.heap.size 40 2 sv k (zaz (allCl ((l.map Rq.call).take k)).2)/\Has w.heap.size wr nv (allCl ((l.map Rq.call).take k)).1/\Ext w wr) (fun _ _ i _=>l.length - (intOf i).toNat)
 case atStart=>exact ⟨0,by omega,rfl,World.ownsRow_nil _ _ _ _,Has.nil _ _,Ext.refl w⟩
 case round =>
  obtain ⟨k,hk,rfl,ho,hh,he⟩:=hrel;obtain ⟨okk,lenk⟩:=HOK.o k;by_cases hlt:k < l.length
  ·have hgk:l[k]?=some l[k]:=List.getElem?_eq_getElem hlt;obtain ⟨b,off,rfl,d0,d1,d2,d3,d4,d5⟩:=H3.o k _ hgk;replace d0:=he.cell d0;replace d1:=he.cell d1;replace d2:=he.cell d2;replace d3:=he.cell d3;replace d4:=he.cell d4;replace d5:=he.cell d5;have hwc:wrongCl l[k].call=0:=hl _ (List.getElem_mem hlt);have HT:Hid (allCl ((l.map Rq.call).take (k+1))=zff (allCl ((l.map Rq.call).take k)) l[k].call):=ziK (by simp [hgk]);generalize l[k]=rq at *;obtain ⟨cl,tk,kd,nm,ot,nn⟩:=rq;simp only [] at d0 d1 d2 d3 d4 d5 hwc;generalize allCl ((l.map Rq.call).take k)=A at *;obtain ⟨A1,A2⟩:=A;simp only [] at ho hh okk lenk;have hlen2:A2.length=k:=by omega
   go_wp2_with fail
   have e0:Ext wr (wr.alloc (.cells #[I cl,I tk,I kd,I nm,I ot,I nn] 37)):=(Ext.refl wr).alloc _;refine (zqH u4 A1 kd nm ot nn _ (hh.writes.ext e0) okk hwc).mono ?_;rintro e w2 ⟨⟨u,rfl,hw2,hu⟩,e2⟩
   have hu2:=hu w.heap.size (Nat.le_trans he.size e0.size) (hh.ext e0);have ho2:=zak ho (e0.trans e2);have he2:Ext w w2:=he.trans (e0.trans e2);clear hu hw2 d0 d1 d2 d3 d4 d5 hh ho;generalize hD:zbk A1 ⟨kd,nm,ot,nn⟩=D at *;have HD:Hid (zbk A1 ⟨kd,nm,ot,nn⟩=D):=hD;clear hD;obtain ⟨D1,D2,D3⟩:=D;simp only [] at hu2;clear e0 e2 he;go_wp2_with (at_builtin; refine zbv ?_)
   unfold Hid;refine zay _ rfl (.tmp 24) (.tmp 26) 51 rfl w.heap.size 40 i0 (.agg #[.int .i64 0,.int .i64 0]) 2 16 zmm hi hz0 hz1 hz2 rfl (by decide) u5 k (zaz A2) rfl ((ho2.alloc _).alloc _) _ rfl 1 [I D2,I D3] (zdT _ _ [(D2,D3)] _ 1 rfl rfl (by decide)) (zbD [(D2,D3)]) (by omega) (by decide) (by have:=he2.size; simp; omega) ?_;intro o' w3 ho3 hg3;have he3:Ext w w3:=((he2.alloc _).alloc _).grown hg3 (fun j hj=>(ho2.lt j hj).1);have hh3:Has w.heap.size w3 u D1:=(hu2.ext (((Ext.refl w2).alloc _).alloc _)).grown ((ho2.alloc _).alloc _) (by decide) hg3;clear hg3;go_wp2
   go_roundw
   case rel =>
    refine ⟨k+1,by omega,by go_num,?_,?_,he3⟩
    ·rw [HT.o];simp only [zff];rw [HD.o,zbf];exact ho3
    ·rw [HT.o];simp only [zff];rw [HD.o];exact hh3
   case measure=>simp [intOf]; omega
  ·go_wp2
   go_ret2
   rw [List.take_of_length_le (by simp; omega)] at ho hh;exact ⟨_,rfl,he,_,_,rfl,hh.writes,zaA ho⟩

end Go.Proofs.YtdmipnnfoolelagGreat

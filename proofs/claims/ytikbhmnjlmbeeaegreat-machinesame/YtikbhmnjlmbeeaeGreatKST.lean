/- Texts of the proof, merged: R1 R2 R3 R4 R5. -/
import Derived.Test.YtikbhmnjlmbeeaeGreatKSA
import Derived.Test.YtikbhmnjlmbeeaeGreatKSJ
set_option maxHeartbeats 2000000
set_option maxRecDepth 100000

namespace Go.Proofs.YtikbhmnjlmbeeaeGreat
open Go.RowKit Go.Mk

def zcb (l : List (Int × Int)) (name n : Int) : List (Int × Int):=l.map fun p=>if p.1 = name then (p.1,n) else p

theorem zna (l : List (Int × Int)) (p : Int × Int) (name n : Int) : zcb (l ++ [p]) name n = zcb l name n ++ [if p.1 = name then (p.1,n) else p]:=by simp [zcb]

theorem zbG (l : List (Int × Int)) (name n : Int) : (zcb l name n).length = l.length:=by simp [zcb]

theorem zjO {l : List (Int × Int)} (h : Okn l) {name : Int} (ha : at1 l name < l.length) (n : Int) : zcb l name n = zcm l (at1 l name) n:=by
 refine zha (by rw [zbG,zaR]) fun j hj=>?_
 rw [zbG] at hj
 rw [zdH _ _ _ _ ha]
 have e : (zcb l name n).getD j (0,0) = if (l.getD j (0,0)).1 = name then ((l.getD j (0,0)).1,n) else l.getD j (0,0):=by
  simp [zcb,List.getD_eq_getElem?_getD,hj]
 rw [e]
 by_cases hn : (l.getD j (0,0)).1 = name
 ·have : at1 l name = j:=h.uni ha hj (by rw [zc3 ha,hn])
  rw [if_pos hn,if_pos this]
 ·have : at1 l name ≠ j:=fun e=>hn (by rw [<- e]; exact zc3 ha)
  rw [if_neg hn,if_neg this]

theorem znC {l : List (Int × Int)} {name : Int} (ha : ¬ at1 l name < l.length) (n : Int) : zcb l name n = l:=by
 have e : at1 l name = l.length:=by have:=ziG l name; omega
 refine zha (zbG _ _ _) fun j hj=>?_
 rw [zbG] at hj
 have hn : (l.getD j (0,0)).1 ≠ name:=zdA (by omega)
 simp [zcb,List.getD_eq_getElem?_getD,hj] at hn ⊢
 intro h
 exact absurd h hn

def zpV (l : List (Int × Int)) (name : Int) : Int:=if at1 l name < l.length then num l (at1 l name) else 0

def isR (l : List (Int × Int)) (name : Int) : Bool:=decide (at1 l name < l.length)

def zhV (l : List (Int × Int)) (name : Int) (k : Nat) : Bool:=decide (at1 l name < k)

theorem zeH {l : List (Int × Int)} {name : Int} (h : at1 l name < l.length) : zpV l name = num l (at1 l name):=if_pos h

theorem zfp {l : List (Int × Int)} {name : Int} (h : at1 l name < l.length) : isR l name = true:=decide_eq_true h

theorem zgj {l : List (Int × Int)} {name : Int} (h : ¬ at1 l name < l.length) : zpV l name = 0:=if_neg h

theorem zhq {l : List (Int × Int)} {name : Int} (h : ¬ at1 l name < l.length) : isR l name = false:=decide_eq_false h

theorem zed (v : Value) (l : List (Int × Int)) (name : Int) (w : World) (hv : zay w v l) :
  Calls Tryz.prog 60 #[v,I name] w fun e w'=>e = .returned (.tuple #[I (zpV l name),.bool (isR l name)]) /\ Ext w w':=by
 obtain ⟨ao,cap,rfl,h1,h2,h3⟩:=hv.form;unfold maxLen at h2;clear hv;go_enter Tryz.func60,Tryz.ntmps60
 go_wp2
 go_loopw [10] (fun i wr=>∃ k : Nat,k <= l.length /\ i = I k /\ (∀ j,j < k -> (l.getD j (0,0)).1 ≠ name) /\ Ext w wr) (fun i _=>l.length - (intOf i).toNat)
 case atStart=>exact ⟨0,by omega,rfl,fun j hj=>by omega,Ext.refl w⟩
 case round =>
  obtain ⟨k,hk,rfl,hf,he⟩:=hrel;have HF : Hid (∀ j,j < k -> (l.getD j (0,0)).1 ≠ name):=hf;clear hf;by_cases hlt : k < l.length
  ·obtain ⟨b,off,rfl,hc1,hc2⟩:=h3 k hlt;clear h3;have hd1:=he.cell hc1;have hd2:=he.cell hc2;clear hc1 hc2;generalize hp : l.getD k (0,0) = p at hd1 hd2;have HP : Hid (l.getD k (0,0) = p):=hp;clear hp;obtain ⟨at_,n⟩:=p;simp only [] at hd1 hd2;by_cases hn : at_ = name
   ·have hb : (at_ == name) = true:=by simp [hn]
    have HN : Hid (at_ = name):=hn;clear hn;go_wp2
    go_ret2
    have:=ziP hlt (by rw [HP.o]; exact HN.o) HF.o;refine ⟨?_,he.alloc _⟩;have hnum : num l k = n:=by unfold num; rw [HP.o]
    rw [zeH (by omega),zfp (by omega),this,hnum];rfl
   ·have hb : (at_ == name) = false:=by simpa using hn
    have HN : Hid (at_ ≠ name):=hn;clear hn;go_wp2
    go_roundw
    case rel =>
     refine ⟨k + 1,by omega,by go_num,fun j hj=>?_,he.alloc _⟩;by_cases hjk : j < k
     ·exact HF.o j hjk
     ·rw [show j = k by omega,HP.o]; exact HN.o
    case measure=>simp [intOf]; omega
  ·go_wp2
   go_ret2
   have:=zf6 (l:=l) (name:=name) (fun j hj=>HF.o j (by omega));refine ⟨?_,he⟩;rw [zgj (by omega),zhq (by omega)];rfl

def zkn (l : List (Int × Int)) (name n : Int) : List (Int × Int):=zcb l name n ++ if at1 l name < l.length then [] else [(name,n)]

theorem zf5 {l : List (Int × Int)} {name n : Int} (h : at1 l name < l.length) : zkn l name n = zcb l name n:=by unfold zkn; rw [if_pos h,List.append_nil]

theorem zjJ {l : List (Int × Int)} {name n : Int} (h : ¬ at1 l name < l.length) : zkn l name n = zcb l name n ++ [(name,n)]:=by unfold zkn; rw [if_neg h]

theorem zf3 (v : Value) (l : List (Int × Int)) (name n : Int) (w : World) (hv : zay w v l) (hr : (l.length + 1) * 16 <= 140737488355328) :
  Calls Tryz.prog 62 #[v,I name,I n] w fun e w'=>∃ r,e = .returned r /\ Ext w w' /\ Has w.heap.size w' r (zkn l name n):=by
 obtain ⟨i0,hi,hz0,hz1,hz2⟩:=info_parts Tryz.infoWrite2;obtain ⟨ao,cap,rfl,h1,h2,h3⟩:=hv.form;unfold maxLen at h2;clear hv;go_enter Tryz.func62,Tryz.ntmps62
 go_wp2
 go_loopw [7,8,13] (fun o d i wr=>∃ k : Nat,k <= l.length /\ i = I k /\ d = .bool (zhV l name k) /\ wr.ownsRow w.heap.size 91 2 o k (zaE (zcb (l.take k) name n)) /\ Ext w wr) (fun _ _ i _=>l.length - (intOf i).toNat)
 case atStart=>exact ⟨0,by omega,rfl,by simp [zhV],World.ownsRow_nil _ _ _ _,Ext.refl w⟩
 case round =>
  obtain ⟨k,hk,rfl,rfl,ho,he⟩:=hrel;by_cases hlt : k < l.length
  ·obtain ⟨b,off,rfl,hc1,hc2⟩:=h3 k hlt;clear h3;have hd1:=he.cell hc1;have hd2:=he.cell hc2;clear hc1 hc2;have HB : Hid ((l.getD k (0,0)).1 = name -> at1 l name <= k):=fun h=>Nat.le_of_not_lt fun hlt=>zdA hlt h;have HB2 : Hid ((l.getD k (0,0)).1 ≠ name -> at1 l name ≠ k):=fun h e=>h (by rw [<- e]; exact zc3 (by omega))
   have HT : Hid (zcb (l.take (k + 1)) name n = zcb (l.take k) name n ++ [if (l.getD k (0,0)).1 = name then ((l.getD k (0,0)).1,n) else l.getD k (0,0)]):=by
    unfold Hid;rw [List.take_add_one,List.getElem?_eq_getElem hlt,List.getD_eq_getElem?_getD,List.getElem?_eq_getElem hlt];exact zna _ _ _ _
   generalize l.getD k (0,0) = p at *;obtain ⟨at_,m⟩:=p;simp only [] at hd1 hd2 HB HB2 HT;by_cases hn : at_ = name
   ·have hb : (at_ == name) = true:=by simp [hn]
    have HN : Hid (at_ = name):=hn;clear hn;go_wp2_with (at_builtin; refine zbD ?_)
    unfold Hid;refine zaz _ rfl (.tmp 23) (.tmp 25) 27 rfl w.heap.size 91 i0 (.agg #[.int .i64 0,.int .i64 0]) 2 16 zu27 hi hz0 hz1 hz2 rfl (by decide) u7 k (zaE (zcb (l.take k) name n)) rfl ((ho.alloc _).alloc _) _ rfl 1 [I at_,I n] (zdE _ _ [(at_,n)] _ 1 rfl rfl (by decide)) (zbB [(at_,n)]) (by omega) (by decide) (by have:=he.size; simp; omega) ?_;intro o' w3 ho3 hg3;have he3 : Ext w w3:=((he.alloc _).alloc _).grown hg3 (fun j hj=>(ho.lt j hj).1);clear hg3;go_wp2
    go_roundw
    case rel =>
     refine ⟨k + 1,by omega,by go_num,?_,?_,he3⟩
     ·have:=HB.o HN.o;simp [zhV]; omega
     ·rw [HT.o,if_pos HN.o,zbo]; exact ho3
    case measure=>simp [intOf]; omega
   ·have hb : (at_ == name) = false:=by simpa using hn
    have HN : Hid (at_ ≠ name):=hn;clear hn;go_wp2_with (at_builtin; refine zbD ?_)
    unfold Hid;refine zaz _ rfl (.tmp 23) (.tmp 25) 27 rfl w.heap.size 91 i0 (.agg #[.int .i64 0,.int .i64 0]) 2 16 zu27 hi hz0 hz1 hz2 rfl (by decide) u7 k (zaE (zcb (l.take k) name n)) rfl ((ho.alloc _).alloc _) _ rfl 1 [I at_,I m] (zdE _ _ [(at_,m)] _ 1 rfl rfl (by decide)) (zbB [(at_,m)]) (by omega) (by decide) (by have:=he.size; simp; omega) ?_;intro o' w3 ho3 hg3;have he3 : Ext w w3:=((he.alloc _).alloc _).grown hg3 (fun j hj=>(ho.lt j hj).1);clear hg3;go_wp2
    go_roundw
    case rel =>
     refine ⟨k + 1,by omega,by go_num,?_,?_,he3⟩
     ·have:=HB2.o HN.o;simp [zhV]; omega
     ·rw [HT.o,if_neg HN.o,zbo]; exact ho3
    case measure=>simp [intOf]; omega
  ·have hkl : k = l.length:=by omega
   subst hkl;rw [List.take_of_length_le (Nat.le_refl _)] at ho;by_cases ha : at1 l name < l.length
   ·have hse : zhV l name l.length = true:=by simp [zhV,ha]
    go_wp2
    go_ret
    refine ⟨_,rfl,he,?_⟩;rw [zf5 ha];exact ⟨_,_,_,ho,fun w2 h2=>zaG h2⟩
   ·have hse : zhV l name l.length = false:=by simp [zhV]; omega
    go_wp2_with (at_builtin; refine zbD ?_)
    unfold Hid;refine zaz _ rfl (.tmp 30) (.tmp 34) 27 rfl w.heap.size 91 i0 (.agg #[.int .i64 0,.int .i64 0]) 2 16 zu27 hi hz0 hz1 hz2 rfl (by decide) u7 l.length (zaE (zcb l name n)) rfl (ho.alloc _) _ rfl 1 [I name,I n] (zcE (l:=[(name,n)]) _ _ 1 rfl rfl (by decide)) (zbB [(name,n)]) (by omega) (by decide) (by have:=he.size; simp; omega) ?_;intro o' w3 ho3 hg3;have he3 : Ext w w3:=(he.alloc _).grown hg3 (fun j hj=>(ho.lt j hj).1);clear hg3;go_wp2
    go_ret
    refine ⟨_,rfl,he3,?_⟩;rw [zjJ ha];rw [show zaE (zcb l name n) ++ [I name,I n] = zaE (zcb l name n ++ [(name,n)]) from (zbo _ [(name,n)]).symm] at ho3;exact ⟨_,_,_,ho3,fun w2 h2=>zaG h2⟩

open Go.RowKit Go.Mk

theorem zmV {l : List (Int × Int)} {name : Int} (ha : ¬ at1 l name < l.length) (n : Int) : zkn l name n = l ++ [(name,n)]:=by rw [zjJ ha,znC ha]

theorem zeJ (b : Nat) (v : Value) (e : Int) (w : World) (hb : w.cell? ⟨b,0,none⟩ = some v) (hbl : b < w.heap.size) :
  Calls Tryz.prog 61 #[I e,.pointer (some ⟨b,0,none⟩)] w fun x w'=>x = .returned (.tuple #[v,.agg #[I e,I 0]]) /\ Ext w w':=by
 go_enter Tryz.func61,Tryz.ntmps61
 go_wp2
 go_returns
 exact ⟨rfl,(Ext.refl w).alloc _⟩

def zc4 (l : List (Int × Int)) (a : Int) : List (Int × Int):=(l.map fun p=>if p.1 = a then l.getD (l.length - 1) (0,0) else p).take (l.length - 1)
def doR (l : List (Int × Int)) (c : Cl) : List (Int × Int) × Rp :=
 if c.kind = 5 then (l,⟨0,l.length⟩)
 else if c.kind = 1 then
  if at1 l c.name < l.length then (zcb l c.name c.n,⟨0,num l (at1 l c.name)⟩)
  else if 5 <= l.length then (l,⟨9,0⟩) else (l ++ [(c.name,c.n)],⟨0,0⟩)
 else if ¬ at1 l c.name < l.length then (l,⟨6,0⟩)
 else if c.kind = 2 then (l,⟨0,num l (at1 l c.name)⟩)
 else if c.kind = 3 then (zc4 l c.name,⟨0,num l (at1 l c.name)⟩)
 else if c.kind = 4 then
  if ¬ (-1073741824 <= num l (at1 l c.name) + c.n /\ num l (at1 l c.name) + c.n <= 1073741824) then (l,⟨3,0⟩)
  else (zcb l c.name (num l (at1 l c.name) + c.n),⟨0,num l (at1 l c.name) + c.n⟩)
 else if ¬ at1 l c.other < l.length then (l,⟨6,0⟩)
 else (zcb (zcb l c.name (num l (at1 l c.other))) c.other (num l (at1 l c.name)),⟨0,num l (at1 l c.other)⟩)
theorem zj6 (l : List (Int × Int)) (a o n : Int) : doR l ⟨5,a,o,n⟩ = (l,⟨0,l.length⟩):=rfl
theorem zho (l : List (Int × Int)) (a o n : Int) : doR l ⟨1,a,o,n⟩ = if at1 l a < l.length then (zcb l a n,⟨0,num l (at1 l a)⟩) else if 5 <= l.length then (l,⟨9,0⟩) else (l ++ [(a,n)],⟨0,0⟩):=rfl
theorem zj7 (l : List (Int × Int)) (a o n : Int) : doR l ⟨2,a,o,n⟩ = if ¬ at1 l a < l.length then (l,⟨6,0⟩) else (l,⟨0,num l (at1 l a)⟩):=rfl
theorem zih (l : List (Int × Int)) (a o n : Int) : doR l ⟨3,a,o,n⟩ = if ¬ at1 l a < l.length then (l,⟨6,0⟩) else (zc4 l a,⟨0,num l (at1 l a)⟩):=rfl
theorem zhn (l : List (Int × Int)) (a o n : Int) : doR l ⟨4,a,o,n⟩ = if ¬ at1 l a < l.length then (l,⟨6,0⟩) else if ¬ (-1073741824 <= num l (at1 l a) + n /\ num l (at1 l a) + n <= 1073741824) then (l,⟨3,0⟩) else (zcb l a (num l (at1 l a) + n),⟨0,num l (at1 l a) + n⟩):=rfl
theorem zgn (l : List (Int × Int)) (a b n : Int) : doR l ⟨6,a,b,n⟩ = if ¬ at1 l a < l.length then (l,⟨6,0⟩) else if ¬ at1 l b < l.length then (l,⟨6,0⟩)
 else (zcb (zcb l a (num l (at1 l b))) b (num l (at1 l a)),⟨0,num l (at1 l b)⟩):=rfl
theorem zkh (l : List (Int × Int)) (c : Cl) : (doR l c).2 = (zbm l c).2:=by
 unfold doR zbm
 repeat' split
 all_goals rfl
theorem zdZ (l : List (Int × Int)) (name n : Int) (j : Nat) (hj : j < l.length) : (zcb l name n).getD j (0,0) = if (l.getD j (0,0)).1 = name then ((l.getD j (0,0)).1,n) else l.getD j (0,0):=by
 simp [zcb,List.getD_eq_getElem?_getD,hj]
theorem zoB (l : List (Int × Int)) (name n x : Int) : at1 (zcb l name n) x = at1 l x:=by
 have hf : ∀ j,j < l.length -> ((zcb l name n).getD j (0,0)).1 = (l.getD j (0,0)).1:=fun j hj=>by
  rw [zdZ _ _ _ _ hj]; split <;> rfl
 by_cases h : at1 l x < l.length
 ·refine ziP (by rw [zbG]; exact h) (by rw [hf _ h]; exact zc3 h) (fun j hj=>by rw [hf _ (by omega)]; exact zdA hj)
 ·have e : at1 l x = l.length:=by have:=ziG l x; omega
  rw [e,<- zbG l name n]
  refine zf6 fun j hj=>?_
  rw [zbG] at hj
  rw [hf _ hj]
  exact zdA (by omega)
theorem zdL (l : List (Int × Int)) (a : Int) : (zc4 l a).length = l.length - 1:=by simp [zc4]
theorem zgS (l : List (Int × Int)) (a : Int) (j : Nat) (hj : j < l.length - 1) : (zc4 l a).getD j (0,0) = if (l.getD j (0,0)).1 = a then l.getD (l.length - 1) (0,0) else l.getD j (0,0):=by
 have h2 : j < l.length:=by omega
 unfold zc4
 rw [List.getD_eq_getElem?_getD,List.getElem?_take,if_pos hj,List.getElem?_map,List.getElem?_eq_getElem h2]
 simp [List.getD_eq_getElem?_getD,h2]
theorem zpX {l : List (Int × Int)} (h : Okn l) (c : Cl) : doR l c = zbm l c:=by
 have hs : ∀ a n,at1 l a < l.length -> zcb l a n = zcm l (at1 l a) n:=fun a n ha=>zjO h ha n
 have hd : ∀ a,at1 l a < l.length -> zc4 l a = (l.set (at1 l a) (l.getD (l.length - 1) (0,0))).take (l.length - 1):=fun a ha=>by
  refine zha (by rw [zdL,zcK]) fun j hj=>?_
  rw [zdL] at hj
  rw [zgS _ _ _ hj,zdO _ _ _ ha hj]
  by_cases hn : (l.getD j (0,0)).1 = a
  ·rw [if_pos hn,if_pos (h.uni ha (by omega) (by rw [zc3 ha,hn]))]
  ·rw [if_neg hn,if_neg (fun e=>hn (by rw [<- e]; exact zc3 ha))]
 unfold doR zbm
 by_cases k5 : c.kind = 5
 ·rw [if_pos k5,if_pos k5]
 rw [if_neg k5,if_neg k5]
 by_cases ha : at1 l c.name < l.length
 ·rw [if_pos ha,if_pos ha,hs _ _ ha,hd _ ha]
  by_cases hb : at1 l c.other < l.length
  ·have h2 : zcb (zcm l (at1 l c.name) (num l (at1 l c.other))) c.other (num l (at1 l c.name)) = zcm (zcm l (at1 l c.name) (num l (at1 l c.other))) (at1 l c.other) (num l (at1 l c.name)):=by
    have hm:=(h.at hb).2.2
    have q:=zjO (zfS h ha hm.1 hm.2) (name:=c.other) (by rw [zlH _ _ _ ha,zaR]; exact hb) (num l (at1 l c.name))
    rwa [zlH _ _ _ ha] at q
   rw [hs _ _ ha,hs _ _ ha,h2]
  ·rw [if_pos hb,if_pos hb,hs _ _ ha]
 ·rw [if_neg ha,if_neg ha,if_pos ha,if_pos ha]

def zfX (w : World) (v : Value) (l : List (Int × Int)) (c : Cl) (e : Ending) (w' : World) : Prop :=
 ∃ u,e = .returned (.tuple #[u,(doR l c).2.val]) /\ zay w' u (doR l c).1 /\ ∀ base,base <= w.heap.size -> Has base w v l -> Has base w' u (doR l c).1
theorem zcF {w w' : World} {l : List (Int × Int)} {c : Cl} {v : Value} {r : Rp} (h : doR l c = (l,r)) (hv : zay w v l) (he : Ext w w') : zfX w v l c (.returned (.tuple #[v,r.val])) w':=by
 refine ⟨v,?_,?_,fun base _ hh=>?_⟩ <;> rw [h]
 ·exact hv.ext he
 ·exact hh.ext he
theorem zfi {w w' : World} {l l' : List (Int × Int)} {c : Cl} {u v : Value} {r : Rp} {b : Nat} (h : doR l c = (l',r)) (hu : Has b w' u l') (hb : w.heap.size <= b) : zfX w v l c (.returned (.tuple #[u,r.val])) w':=by
 refine ⟨u,?_,?_,fun base hle _=>?_⟩ <;> rw [h]
 ·exact hu.writes
 ·exact hu.low (Nat.le_trans hle hb)

theorem zmj {w : World} {x : Value} {k a o n : Int} (wx : World) (hx : Ext (((w.alloc (.cells #[x] 27)).alloc (.cells #[I k,I a,I o,I n] 34)).alloc (.cells #[I 0,I 0] 39)) wx) :
   wx.cell? ⟨w.heap.size,0,none⟩ = some x /\ wx.cell? ⟨w.heap.size + 1,0,none⟩ = some (I k) /\ wx.cell? ⟨w.heap.size + 1,1,none⟩ = some (I a) /\ wx.cell? ⟨w.heap.size + 1,2,none⟩ = some (I o) /\ wx.cell? ⟨w.heap.size + 1,3,none⟩ = some (I n) /\
   wx.cell? ⟨w.heap.size + 1 + 1,0,none⟩ = some (I 0) /\ wx.cell? ⟨w.heap.size + 1 + 1,1,none⟩ = some (I 0) /\ wx.heap[w.heap.size + 1 + 1]? = some (.cells #[I 0,I 0] 39) /\ Ext w wx:=by
 have hb : (((w.alloc (.cells #[x] 27)).alloc (.cells #[I k,I a,I o,I n] 34)).alloc (.cells #[I 0,I 0] 39)).heap[w.heap.size + 1 + 1]? = some (.cells #[I 0,I 0] 39):=by
  have:=heap_alloc_new ((w.alloc (.cells #[x] 27)).alloc (.cells #[I k,I a,I o,I n] 34)) (.cells #[I 0,I 0] 39)
  simpa using this
 have p0 : (((w.alloc (.cells #[x] 27)).alloc (.cells #[I k,I a,I o,I n] 34)).alloc (.cells #[I 0,I 0] 39)).heap[w.heap.size]? = some (.cells #[x] 27):=by
  rw [heap_alloc_old _ _ (by simp; omega),heap_alloc_old _ _ (by simp)]
  exact heap_alloc_new _ _
 have p1 : (((w.alloc (.cells #[x] 27)).alloc (.cells #[I k,I a,I o,I n] 34)).alloc (.cells #[I 0,I 0] 39)).heap[w.heap.size + 1]? = some (.cells #[I k,I a,I o,I n] 34):=by
  rw [heap_alloc_old _ _ (by simp)]
  have:=heap_alloc_new (w.alloc (.cells #[x] 27)) (.cells #[I k,I a,I o,I n] 34)
  simpa using this
 refine ⟨hx.cell (zaV p0 rfl),hx.cell (zaV p1 rfl),hx.cell (zaV p1 rfl),hx.cell (zaV p1 rfl),hx.cell (zaV p1 rfl),hx.cell (zaV hb rfl),hx.cell (zaV hb rfl),?_,((((Ext.refl w).alloc _).alloc _).alloc _).trans hx⟩
 rw [hx.block _ (by simp)]
 exact hb

theorem zhs (v : Value) (l : List (Int × Int)) (k a o n : Int) (w : World) (hv : zay w v l) (hl : Okw l) (hk : k = 2 ∨ k = 3 ∨ k = 4 ∨ k = 6) (ha : ¬ at1 l a < l.length) :
  Calls Tryz.prog 35 #[v,.agg #[I k,I a,I o,I n]] w fun e w'=>zfX w v l ⟨k,a,o,n⟩ e w' /\ Ext w w':=by
 have hmf:=zdu;have hl5:=hl.len;obtain ⟨ao,cap,rfl,g1,g2,g3⟩:=hv.form;unfold maxLen at g2;have H3 : Hid _:=g3;clear g3;go_enter Tryz.func35,Tryz.ntmps35
 go_wp2_with fail
 refine Calls.exts (zed _ l a _ (hv.ext ((((Ext.refl w).alloc _).alloc _).alloc _))) (fun w1 e1=>?_);obtain ⟨s0,q0,q1,q2,q3,x0,x1,hbx,hw1⟩:=zmj w1 e1;obtain ⟨_,_,f0,f1⟩:=zaN hbx (Ext.refl w1);have hv1:=hv.ext hw1;have hbs : w.heap.size + 1 + 1 < w1.heap.size:=(Array.getElem?_eq_some_iff.1 hbx).1;have hz:=zhq ha;have hz2:=zgj ha;rw [hz,hz2];clear hz hz2;rcases hk with rfl | rfl | rfl | rfl
 ·go_wp2_with fail
  refine Calls.exts (zeJ _ _ _ _ s0 (zdv s0)) (fun w2 e2=>?_);obtain ⟨x0,x1,f0,f1⟩:=zaN hbx e2;have m2:=hw1.trans e2;go_wp2
  try simp only [Exit.inBlock,Exit.then]
  refine bodyPost_ret (by simp [results,Tryz.results35,go_sem,x0,x1]; rfl) rfl ?_;exact ⟨zcF (r:=⟨6,0⟩) (by rw [zj7,if_pos ha]) hv ((m2.setCell (by simp only []; omega) _).setCell (by simp only []; omega) _),(m2.setCell (by simp only []; omega) _).setCell (by simp only []; omega) _⟩
 ·go_wp2_with fail
  refine Calls.exts (zeJ _ _ _ _ s0 (zdv s0)) (fun w2 e2=>?_);obtain ⟨x0,x1,f0,f1⟩:=zaN hbx e2;have m2:=hw1.trans e2;go_wp2
  try simp only [Exit.inBlock,Exit.then]
  refine bodyPost_ret (by simp [results,Tryz.results35,go_sem,x0,x1]; rfl) rfl ?_;exact ⟨zcF (r:=⟨6,0⟩) (by rw [zih,if_pos ha]) hv ((m2.setCell (by simp only []; omega) _).setCell (by simp only []; omega) _),(m2.setCell (by simp only []; omega) _).setCell (by simp only []; omega) _⟩
 ·go_wp2_with fail
  refine Calls.exts (zeJ _ _ _ _ s0 (zdv s0)) (fun w2 e2=>?_);obtain ⟨x0,x1,f0,f1⟩:=zaN hbx e2;have m2:=hw1.trans e2;go_wp2
  try simp only [Exit.inBlock,Exit.then]
  refine bodyPost_ret (by simp [results,Tryz.results35,go_sem,x0,x1]; rfl) rfl ?_;exact ⟨zcF (r:=⟨6,0⟩) (by rw [zhn,if_pos ha]) hv ((m2.setCell (by simp only []; omega) _).setCell (by simp only []; omega) _),(m2.setCell (by simp only []; omega) _).setCell (by simp only []; omega) _⟩
 ·go_wp2_with fail
  refine Calls.exts (zeJ _ _ _ _ s0 (zdv s0)) (fun w2 e2=>?_);obtain ⟨x0,x1,f0,f1⟩:=zaN hbx e2;have m2:=hw1.trans e2;go_wp2
  try simp only [Exit.inBlock,Exit.then]
  refine bodyPost_ret (by simp [results,Tryz.results35,go_sem,x0,x1]; rfl) rfl ?_;exact ⟨zcF (r:=⟨6,0⟩) (by rw [zgn,if_pos ha]) hv ((m2.setCell (by simp only []; omega) _).setCell (by simp only []; omega) _),(m2.setCell (by simp only []; omega) _).setCell (by simp only []; omega) _⟩

open Go.RowKit Go.Mk

theorem zjE (v : Value) (l : List (Int × Int)) (a o n : Int) (w : World) (hv : zay w v l) (hl : Okw l) :
  Calls Tryz.prog 35 #[v,.agg #[I 5,I a,I o,I n]] w fun e w'=>zfX w v l ⟨5,a,o,n⟩ e w' /\ Ext w w':=by
 have hmf:=zdu;have hl5:=hl.len;obtain ⟨ao,cap,rfl,g1,g2,g3⟩:=hv.form;unfold maxLen at g2;have H3 : Hid _:=g3;clear g3;go_enter Tryz.func35,Tryz.ntmps35
 go_wp2_with fail
 refine Calls.exts (zed _ l a _ (hv.ext ((((Ext.refl w).alloc _).alloc _).alloc _))) (fun w1 e1=>?_);obtain ⟨s0,q0,q1,q2,q3,x0,x1,hbx,hw1⟩:=zmj w1 e1;obtain ⟨_,_,f0,f1⟩:=zaN hbx (Ext.refl w1);have hv1:=hv.ext hw1;have hbs : w.heap.size + 1 + 1 < w1.heap.size:=(Array.getElem?_eq_some_iff.1 hbx).1;go_wp2_with fail
 go_region
 go_wp2
 try simp only [Exit.inBlock,Exit.then]
 refine bodyPost_ret (by simp [results,Tryz.results35,go_sem,x0,x1]; rfl) rfl ?_;exact ⟨zcF (r:=⟨0,l.length⟩) (by rw [zj6]) hv ((hw1.setCell (by simp only []; omega) _).setCell (by simp only []; omega) _).drew,((hw1.setCell (by simp only []; omega) _).setCell (by simp only []; omega) _).drew⟩

theorem zmE (v : Value) (l : List (Int × Int)) (a o n : Int) (w : World) (hv : zay w v l) (hl : Okw l) :
  Calls Tryz.prog 35 #[v,.agg #[I 1,I a,I o,I n]] w fun e w'=>zfX w v l ⟨1,a,o,n⟩ e w' /\ Ext w w':=by
 have hmf:=zdu;have hl5:=hl.len;obtain ⟨ao,cap,rfl,g1,g2,g3⟩:=hv.form;unfold maxLen at g2;have H3 : Hid _:=g3;clear g3;go_enter Tryz.func35,Tryz.ntmps35
 go_wp2_with fail
 refine Calls.exts (zed _ l a _ (hv.ext ((((Ext.refl w).alloc _).alloc _).alloc _))) (fun w1 e1=>?_);obtain ⟨s0,q0,q1,q2,q3,x0,x1,hbx,hw1⟩:=zmj w1 e1;obtain ⟨_,_,f0,f1⟩:=zaN hbx (Ext.refl w1);have hv1:=hv.ext hw1;have hbs : w.heap.size + 1 + 1 < w1.heap.size:=(Array.getElem?_eq_some_iff.1 hbx).1;by_cases ha : at1 l a < l.length
 case neg =>
  have hz:=zhq ha;have hz2:=zgj ha;rw [hz,hz2];clear hz hz2;by_cases h5 : 5 <= l.length
  ·have h5' : (5 : Int) <= (l.length : Int):=by omega
   go_wp2_with fail
   refine Calls.exts (zeJ _ _ _ _ s0 (zdv s0)) (fun w2 e2=>?_);obtain ⟨x0,x1,f0,f1⟩:=zaN hbx e2;have m2:=hw1.trans e2;go_wp2
   try simp only [Exit.inBlock,Exit.then]
   refine bodyPost_ret (by simp [results,Tryz.results35,go_sem,x0,x1]; rfl) rfl ?_;exact ⟨zcF (r:=⟨9,0⟩) (by rw [zho,if_neg ha,if_pos h5]) hv ((m2.setCell (by simp only []; omega) _).setCell (by simp only []; omega) _),(m2.setCell (by simp only []; omega) _).setCell (by simp only []; omega) _⟩
  ·have h5' : (l.length : Int) < 5:=by omega
   go_wp2_with fail
   refine (zf3 _ l a n _ hv1 (by omega)).mono ?_;rintro e w2 ⟨r,rfl,e2,hr2⟩
   rw [zmV ha] at hr2;obtain ⟨x0,x1,f0,f1⟩:=zaN hbx e2;have m2:=hw1.trans e2;go_wp2
   try simp only [Exit.inBlock,Exit.then]
   refine bodyPost_ret (by simp [results,Tryz.results35,go_sem,x0,x1]; rfl) rfl ?_;exact ⟨zfi (r:=⟨0,0⟩) (by rw [zho,if_neg ha,if_neg h5]) ((hr2.set hbs _ _).set hbs _ _) hw1.size,(m2.setCell (by simp only []; omega) _).setCell (by simp only []; omega) _⟩
 have hz:=zfp ha;have hz2:=zeH ha;rw [hz,hz2];clear hz hz2;go_wp2_with fail
 refine (zf3 _ l a n _ hv1 (by omega)).mono ?_;rintro e w2 ⟨r,rfl,e2,hr2⟩
 rw [zf5 ha] at hr2;obtain ⟨x0,x1,f0,f1⟩:=zaN hbx e2;have m2:=hw1.trans e2;go_wp2
 try simp only [Exit.inBlock,Exit.then]
 refine bodyPost_ret (by simp [results,Tryz.results35,go_sem,x0,x1]; rfl) rfl ?_;exact ⟨zfi (r:=⟨0,num l (at1 l a)⟩) (by rw [zho,if_pos ha]) ((hr2.set hbs _ _).set hbs _ _) hw1.size,(m2.setCell (by simp only []; omega) _).setCell (by simp only []; omega) _⟩

theorem zpf (v : Value) (l : List (Int × Int)) (a o n : Int) (w : World) (hv : zay w v l) (hl : Okw l) (ha : at1 l a < l.length) :
  Calls Tryz.prog 35 #[v,.agg #[I 2,I a,I o,I n]] w fun e w'=>zfX w v l ⟨2,a,o,n⟩ e w' /\ Ext w w':=by
 have hmf:=zdu;have hl5:=hl.len;obtain ⟨ao,cap,rfl,g1,g2,g3⟩:=hv.form;unfold maxLen at g2;have H3 : Hid _:=g3;clear g3;go_enter Tryz.func35,Tryz.ntmps35
 go_wp2_with fail
 refine Calls.exts (zed _ l a _ (hv.ext ((((Ext.refl w).alloc _).alloc _).alloc _))) (fun w1 e1=>?_);obtain ⟨s0,q0,q1,q2,q3,x0,x1,hbx,hw1⟩:=zmj w1 e1;obtain ⟨_,_,f0,f1⟩:=zaN hbx (Ext.refl w1);have hv1:=hv.ext hw1;have hbs : w.heap.size + 1 + 1 < w1.heap.size:=(Array.getElem?_eq_some_iff.1 hbx).1;have hz:=zfp ha;have hz2:=zeH ha;rw [hz,hz2];clear hz hz2;go_wp2
 try simp only [Exit.inBlock,Exit.then]
 refine bodyPost_ret (by simp [results,Tryz.results35,go_sem,x0,x1]; rfl) rfl ?_;exact ⟨zcF (r:=⟨0,num l (at1 l a)⟩) (by rw [zj7,if_neg (by simpa using ha)]) hv ((hw1.setCell (by simp only []; omega) _).setCell (by simp only []; omega) _),(hw1.setCell (by simp only []; omega) _).setCell (by simp only []; omega) _⟩

open Go.RowKit Go.Mk

theorem zml (l : List (Int × Int)) (a : Int) {k : Nat} (hk : k < l.length - 1) :
  (zc4 l a).take (k + 1) = (zc4 l a).take k ++ [if (l.getD k (0,0)).1 = a then l.getD (l.length - 1) (0,0) else l.getD k (0,0)]:=by
 have e : (zc4 l a)[k]? = some ((zc4 l a).getD k (0,0)):=by
  have : k < (zc4 l a).length:=by rw [zdL]; exact hk
  rw [List.getD_eq_getElem?_getD,List.getElem?_eq_getElem this]
  rfl
 rw [List.take_add_one,e,<- zgS _ _ _ hk]
 rfl

theorem zod (v : Value) (l : List (Int × Int)) (a o n : Int) (w : World) (hv : zay w v l) (hl : Okw l) (ha : at1 l a < l.length) :
  Calls Tryz.prog 35 #[v,.agg #[I 3,I a,I o,I n]] w fun e w'=>zfX w v l ⟨3,a,o,n⟩ e w' /\ Ext w w':=by
 obtain ⟨i0,hi,hz0,hz1,hz2⟩:=info_parts Tryz.infoWrite2;have hmf:=zdu;have hl5:=hl.len;obtain ⟨ao,cap,rfl,g1,g2,g3⟩:=hv.form;unfold maxLen at g2;have H3 : Hid _:=g3;clear g3;go_enter Tryz.func35,Tryz.ntmps35
 go_wp2_with fail
 refine Calls.exts (zed _ l a _ (hv.ext ((((Ext.refl w).alloc _).alloc _).alloc _))) (fun w1 e1=>?_);obtain ⟨s0,q0,q1,q2,q3,x0,x1,hbx,hw1⟩:=zmj w1 e1;obtain ⟨_,_,f0,f1⟩:=zaN hbx (Ext.refl w1);have hv1:=hv.ext hw1;have hbs : w.heap.size + 1 + 1 < w1.heap.size:=(Array.getElem?_eq_some_iff.1 hbx).1;have hy:=zfp ha;have hy2:=zeH ha;rw [hy,hy2];clear hy hy2;generalize hM : num l (at1 l a) = m0 at *
 have HD : Hid (doR l ⟨3,a,o,n⟩ = (zc4 l a,⟨0,m0⟩)):=by
  unfold Hid;rw [zih,if_neg (by simpa using ha),hM]
 clear hM;have hv1f:=hv1.form;obtain ⟨ao',cap',he',_,_,g3⟩:=hv1f;simp only [Value.slice.injEq,true_and] at he';obtain ⟨rfl,rfl⟩:=he';obtain ⟨b,off,rfl,_⟩:=g3 0 (by omega)
 have HC : Hid (∀ j,j < l.length -> w1.cell? ⟨b,off + j * 2,none⟩ = some (I (l.getD j (0,0)).1) /\ w1.cell? ⟨b,off + j * 2 + 1,none⟩ = some (I (l.getD j (0,0)).2)):=fun j hj=>by
  obtain ⟨b',off',e',r1,r2⟩:=g3 j hj;simp only [Option.some.injEq,Addr.mk.injEq,and_true] at e';obtain ⟨rfl,rfl⟩:=e';exact ⟨r1,r2⟩
 clear g3 H3;have HX : Hid (∀ k,k < l.length - 1 -> (zc4 l a).take (k + 1) = (zc4 l a).take k ++ [if (l.getD k (0,0)).1 = a then l.getD (l.length - 1) (0,0) else l.getD k (0,0)]):=fun k hk=>zml l a hk;have HLD : Hid ((zc4 l a).length = l.length - 1):=zdL l a;go_wp2_with fail
 go_loopw [9,78] (fun out i wr=>∃ k : Nat,k <= l.length /\ i = I k /\ wr.ownsRow w1.heap.size 91 2 out (min k (l.length - 1)) (zaE ((zc4 l a).take k)) /\ Ext w1 wr) (fun _ i _=>l.length - (intOf i).toNat)
 case atStart=>exact ⟨0,by omega,rfl,by rw [Nat.zero_min]; exact World.ownsRow_nil _ _ _ _,Ext.refl w1⟩
 case round =>
  obtain ⟨k,hk,rfl,ho,he⟩:=hrel;by_cases hlt : k < l.length
  ·obtain ⟨c1,c2⟩:=HC.o k hlt;obtain ⟨c3,c4⟩:=HC.o (l.length - 1) (by omega);replace c1:=he.cell c1;replace c2:=he.cell c2;have t0:=he.cell s0;have t1:=he.cell q1;have u0:=fun o=>((Ext.refl wr).alloc o).cell t0;have u1:=fun o=>((Ext.refl wr).alloc o).cell t1;have u3:=fun o=>((Ext.refl wr).alloc o).cell (he.cell c3);have u4:=fun o=>((Ext.refl wr).alloc o).cell (he.cell c4);clear c3 c4 t0 t1;have HXk:=HX.o k;have HT : Hid (k < l.length - 1 -> (zc4 l a).take (k + 1) = (zc4 l a).take k ++ [if (l.getD k (0,0)).1 = a then l.getD (l.length - 1) (0,0) else l.getD k (0,0)]):=HXk;clear HXk;generalize hL : l.length - 1 = L at *;have hLi : (l.length : Int) - 1 = (L : Int):=by omega
   have hLt : (L : Int) < (l.length : Int):=by omega
   generalize l.getD L (0,0) = q at *;generalize l.getD k (0,0) = p at *;obtain ⟨at_,m⟩:=p;obtain ⟨b_,y⟩:=q;simp only [] at c1 c2 u3 u4 HT;by_cases hn : at_ = a
   ·have hb : (at_ == a) = true:=by simp [hn]
    have HN : Hid (at_ = a):=hn;clear hn;by_cases hkL : k < L
    ·have hkL' : (k : Int) < (L : Int):=by omega
     rw [show min k L = k by omega] at ho;go_wp2_with (at_builtin; refine zbD ?_)
     unfold Hid;refine zaz _ rfl (.tmp 99) (.tmp 101) 27 rfl w1.heap.size 91 i0 (.agg #[.int .i64 0,.int .i64 0]) 2 16 zu27 hi hz0 hz1 hz2 rfl (by decide) u9 k (zaE ((zc4 l a).take k)) rfl ((ho.alloc _).alloc _) _ rfl 1 [I b_,I y] (zdE _ _ [(b_,y)] _ 1 rfl rfl (by decide)) (zbB [(b_,y)]) (by omega) (by decide) (by have:=he.size; simp; omega) ?_;intro o' w3 ho3 hg3;have he3 : Ext w1 w3:=((he.alloc _).alloc _).grown hg3 (fun j hj=>(ho.lt j hj).1);clear hg3;go_wp2
     go_roundw
     case rel =>
      refine ⟨k + 1,by omega,by go_num,?_,he3⟩;rw [HT.o hkL,if_pos HN.o,zbo,show min (k + 1) L = k + 1 by omega];exact ho3
     case measure=>simp [intOf]; omega
    ·have hkL' : ¬ (k : Int) < (L : Int):=by omega
     go_wp2
     go_roundw
     case rel =>
      refine ⟨k + 1,by omega,by go_num,?_,he.alloc _⟩;rw [show min (k + 1) L = min k L by omega,List.take_of_length_le (by rw [HLD.o]; omega)];rw [List.take_of_length_le (by rw [HLD.o]; omega)] at ho;exact ho.alloc _
     case measure=>simp [intOf]; omega
   ·have hb : (at_ == a) = false:=by simpa using hn
    have HN : Hid (¬ at_ = a):=hn;clear hn;by_cases hkL : k < L
    ·have hkL' : (k : Int) < (L : Int):=by omega
     rw [show min k L = k by omega] at ho;go_wp2_with (at_builtin; refine zbD ?_)
     unfold Hid;refine zaz _ rfl (.tmp 99) (.tmp 101) 27 rfl w1.heap.size 91 i0 (.agg #[.int .i64 0,.int .i64 0]) 2 16 zu27 hi hz0 hz1 hz2 rfl (by decide) u9 k (zaE ((zc4 l a).take k)) rfl ((ho.alloc _).alloc _) _ rfl 1 [I at_,I m] (zdE _ _ [(at_,m)] _ 1 rfl rfl (by decide)) (zbB [(at_,m)]) (by omega) (by decide) (by have:=he.size; simp; omega) ?_;intro o' w3 ho3 hg3;have he3 : Ext w1 w3:=((he.alloc _).alloc _).grown hg3 (fun j hj=>(ho.lt j hj).1);clear hg3;go_wp2
     go_roundw
     case rel =>
      refine ⟨k + 1,by omega,by go_num,?_,he3⟩;rw [HT.o hkL,if_neg HN.o,zbo,show min (k + 1) L = k + 1 by omega];exact ho3
     case measure=>simp [intOf]; omega
    ·have hkL' : ¬ (k : Int) < (L : Int):=by omega
     go_wp2
     go_roundw
     case rel =>
      refine ⟨k + 1,by omega,by go_num,?_,he.alloc _⟩;rw [show min (k + 1) L = min k L by omega,List.take_of_length_le (by rw [HLD.o]; omega)];rw [List.take_of_length_le (by rw [HLD.o]; omega)] at ho;exact ho.alloc _
     case measure=>simp [intOf]; omega
  ·rw [List.take_of_length_le (by rw [HLD.o]; omega)] at ho;obtain ⟨x0,x1,f0,f1⟩:=zaN hbx he;have m3:=hw1.trans he;have hh : Has w1.heap.size wr u9 (zc4 l a):=⟨_,_,_,ho,fun w2 h2=>zaG h2⟩;go_wp2
   try simp only [Exit.inBlock,Exit.then]
   refine bodyPost_ret (by simp [results,Tryz.results35,go_sem,x0,x1]; rfl) rfl ?_;exact ⟨zfi (r:=⟨0,m0⟩) HD.o ((hh.set hbs _ _).set hbs _ _) hw1.size,(m3.setCell (by simp only []; omega) _).setCell (by simp only []; omega) _⟩

open Go.RowKit Go.Mk

theorem zph (v : Value) (l : List (Int × Int)) (a o n : Int) (w : World) (hv : zay w v l) (hl : Okw l) (ha : at1 l a < l.length) (hn : -1073741824 <= n /\ n <= 1073741824) :
  Calls Tryz.prog 35 #[v,.agg #[I 4,I a,I o,I n]] w fun e w'=>zfX w v l ⟨4,a,o,n⟩ e w' /\ Ext w w':=by
 have hmf:=zdu;have hl5:=hl.len;obtain ⟨ao,cap,rfl,g1,g2,g3⟩:=hv.form;unfold maxLen at g2;have H3 : Hid _:=g3;clear g3;go_enter Tryz.func35,Tryz.ntmps35
 go_wp2_with fail
 refine Calls.exts (zed _ l a _ (hv.ext ((((Ext.refl w).alloc _).alloc _).alloc _))) (fun w1 e1=>?_);obtain ⟨s0,q0,q1,q2,q3,x0,x1,hbx,hw1⟩:=zmj w1 e1;obtain ⟨_,_,f0,f1⟩:=zaN hbx (Ext.refl w1);have hv1:=hv.ext hw1;have hbs : w.heap.size + 1 + 1 < w1.heap.size:=(Array.getElem?_eq_some_iff.1 hbx).1;have hz:=zfp ha;have hz2:=zeH ha;rw [hz,hz2];clear hz hz2;have hm:=(hl.at ha).2.2;have hm1 : -1073741824 <= num l (at1 l a):=hm.1;have hm2 : num l (at1 l a) <= 1073741824:=hm.2;clear hm;obtain ⟨n1,n2⟩:=hn;generalize hM : num l (at1 l a) = m at *;have HM : Hid (num l (at1 l a) = m):=hM;clear hM;by_cases hs : -1073741824 <= m + n /\ m + n <= 1073741824
 case neg =>
  have hs2 : m + n < -1073741824 ∨ 1073741824 < m + n:=by omega
  have HNS : Hid (¬ (-1073741824 <= m + n /\ m + n <= 1073741824)):=hs;clear hs;rcases hs2 with hs2 | hs2
  ·go_wp2_with fail
   refine Calls.exts (zeJ _ _ _ _ s0 (zdv s0)) (fun w2 e2=>?_);obtain ⟨x0,x1,f0,f1⟩:=zaN hbx e2;have m2:=hw1.trans e2;go_wp2
   try simp only [Exit.inBlock,Exit.then]
   refine bodyPost_ret (by simp [results,Tryz.results35,go_sem,x0,x1]; rfl) rfl ?_;exact ⟨zcF (r:=⟨3,0⟩) (by rw [zhn,if_neg (by simpa using ha),HM.o,if_pos HNS.o]) hv ((m2.setCell (by simp only []; omega) _).setCell (by simp only []; omega) _),(m2.setCell (by simp only []; omega) _).setCell (by simp only []; omega) _⟩
  ·go_wp2_with fail
   refine Calls.exts (zeJ _ _ _ _ s0 (zdv s0)) (fun w2 e2=>?_);obtain ⟨x0,x1,f0,f1⟩:=zaN hbx e2;have m2:=hw1.trans e2;go_wp2
   try simp only [Exit.inBlock,Exit.then]
   refine bodyPost_ret (by simp [results,Tryz.results35,go_sem,x0,x1]; rfl) rfl ?_;exact ⟨zcF (r:=⟨3,0⟩) (by rw [zhn,if_neg (by simpa using ha),HM.o,if_pos HNS.o]) hv ((m2.setCell (by simp only []; omega) _).setCell (by simp only []; omega) _),(m2.setCell (by simp only []; omega) _).setCell (by simp only []; omega) _⟩
 obtain ⟨s1,s2⟩:=hs;have hsum : IntKind.i64.wrap (m + n) = m + n:=by rw [IntKind.wrap_i64]; omega
 have HSET : Hid (zkn l a (m + n) = zcb l a (m + n)):=zf5 ha;go_wp2_with fail
 refine zap 14 [none,none,none,none,none,none,none,some (.inr fun r w'=>Has w1.heap.size w' r (zcb l a (m + n))),none,none,none,none,none,none] (by kernel_rfl) (by kernel_rfl) ?_ ?_
 ·exact ⟨trivial,trivial,trivial,trivial,trivial,trivial,trivial,zfs _ _,trivial,trivial,trivial,trivial,trivial,trivial,trivial⟩
 refine zaF (.slice ao l.length cap) rfl (fun w' hw'=>by have:=hw'.cell s0; go_simp) ?_;(refine zau (fun K hK=>?_); go_simp; refine hK _ ?_; clear hK K)
 refine zaF (I a) rfl (fun w' hw'=>by have:=hw'.cell q1; go_simp) ?_;iterate 2 (refine zau (fun K hK=>?_); go_simp; refine hK _ ?_; clear hK K)
 refine zaF (I n) rfl (fun w' hw'=>by have:=hw'.cell q3; go_simp) ?_;(refine zau (fun K hK=>?_); go_simp; refine hK _ ?_; clear hK K)
 refine za8 _ rfl (fun w' hw' _=>?_) (fun v134=>?_)
 ·have hg : za2 Tryz.prog 62 #[.slice ao l.length cap,I a,I (m + n)] w' (fun r w''=>Has w1.heap.size w'' r (zcb l a (m + n))) :=
   za2.mono (zf3 _ l a (m + n) w' (hv1.ext hw') (by omega)) (fun r w'' _ h=>by rw [HSET.o] at h; exact h.low hw'.size)
  unfold zaT;go_simp
  exact ⟨Ext.refl _,hg⟩
 iterate 2 (refine zau (fun K hK=>?_); go_simp; refine hK _ ?_; clear hK K)
 refine zaF (I n) rfl (fun w' hw'=>by have:=hw'.cell q3; go_simp) ?_;iterate 3 (refine zau (fun K hK=>?_); go_simp; refine hK _ ?_; clear hK K)
 refine za4 ?_;intro w2 he2 hF;have hr2 : Has w1.heap.size w2 v134 (zcb l a (m + n)):=hF 134;clear hF;obtain ⟨x0,x1,f0,f1⟩:=zaN hbx he2;have m2:=hw1.trans he2;go_wp2
 try simp only [Exit.inBlock,Exit.then]
 refine bodyPost_ret (by simp [results,Tryz.results35,go_sem,x0,x1]; rfl) rfl ?_;exact ⟨zfi (r:=⟨0,m + n⟩) (by rw [zhn,if_neg (by simpa using ha),HM.o,if_neg (by simp; omega)]) ((hr2.set hbs _ _).set hbs _ _) hw1.size,(m2.setCell (by simp only []; omega) _).setCell (by simp only []; omega) _⟩

end Go.Proofs.YtikbhmnjlmbeeaeGreat

/- Texts of the proof, merged: Mem7 Mem8 Mem9 Big Big2. -/
import Derived.Test.YtikbhmnjlmbeeaeGreatKOE
import Derived.Test.YtikbhmnjlmbeeaeGreatKOA
import Derived.Deep.MidRow
import Derived.Great.Ranges

namespace Go.Mk
open Go Go.RowKit

theorem zbZ {P : Program} (w : World) (t ty e : TypeId) (size : Nat) (hu : P.underlying t = some (.slice e)) (hsz : (P.info? e).map (·.size) = some size) (base g n : Nat) (v : Value) (cs old : List Value)
  (hown : w.ownsRow base e size (.slice (some ⟨g,0,none⟩) n n) n old) (hv : Row w size v n cs) (h1 : ∀ u ∈ cs,u.oneCell' = true) :
  ∃ w',(Builtin.copy_ #[t,t] ty #[.slice (some ⟨g,0,none⟩) n n,v]).run P w = .ok (goInt n) w' /\ w'.ownsRow base e size (.slice (some ⟨g,0,none⟩) n n) n cs /\ w.grownBy w' (some g):=by
 obtain ⟨hl,ao,cap,rfl,hc,hm,hnil,hcell⟩:=hv
 obtain ⟨ho,ho'⟩:=hown
 rcases ho' with ⟨h,_⟩ | ⟨g',cap',cur,h,hb,hg,hn,hm',hs,ht⟩
 ·simp at h
 simp only [Value.slice.injEq,Option.some.injEq,Addr.mk.injEq,and_true,true_and] at h
 obtain ⟨rfl,rfl⟩:=h
 cases hq : P.info? e with
 | none=>simp [hq] at hsz
 | some i =>
  have hi : i.size = size:=by simpa [hq] using hsz
  cases ao with
  | none =>
   have hcap:=hnil rfl
   subst hcap
   have h0 : n = 0:=by omega
   subst h0
   have : cs = []:=List.eq_nil_of_length_eq_zero (by simpa using hl)
   subst this
   refine ⟨w,by simp [Builtin.copy_,run_underlying hu,Builtin.lenOf,Builtin.firstCells,sizeOf,typeInfo,hq,storeCells],⟨by simp,.inr ⟨g,0,cur,rfl,hb,hg,Nat.le_refl _,hm',by simpa using hs,by simp⟩⟩,World.grownBy.refl _ _⟩
  | some ad =>
   have hsrc : ∀ j u,cs[j]? = some u -> w.cell? (ad.add j) = some u:=fun j u hj=>by
    obtain ⟨b',off',e',hc'⟩:=hcell j u hj
    simp only [Option.some.injEq] at e'
    subst e'
    rw [add_plain]; exact hc'
   have hld:=run_loadCells_list (P:=P) w ad cs hsrc
   have hst:=run_storeCells_at P g 0 e cs 0 cur w hg (by rw [hl,hs]; omega) h1
   simp only [Nat.add_zero,Nat.zero_add,List.take_zero,List.nil_append] at hst
   rw [hl] at hld
   refine ⟨w.setRow g (cs ++ cur.toList.drop cs.length).toArray,by simp [Builtin.copy_,run_underlying hu,Builtin.lenOf,Builtin.firstCells,sizeOf,typeInfo,hq,hi,hld,hst],⟨hl,.inr ⟨g,n,_,rfl,hb,setRow_heap w g cur _ e _ hg,Nat.le_refl _,hm',?_,?_⟩⟩,⟨rfl,rfl,rfl,by simp [World.setRow],fun k _ hk=>setRow_other w g k _ (fun e=>hk (by simp [e]))⟩⟩
   ·simp; omega
   ·simp [<- hl]

theorem Rd.set4 {A : Nat -> Prop} {φ : World -> Prop} {w : World} (h : Rd A φ w) {b : Nat} (hb : ¬ A b) (u v x y : Value) : Rd A φ ((((w.setCell ⟨b,0,none⟩ u).setCell ⟨b,1,none⟩ v).setCell ⟨b,2,none⟩ x).setCell ⟨b,3,none⟩ y) :=
 (((h.set hb 0 u).set hb 1 v).set hb 2 x).set hb 3 y

open Go Go.RowKit

theorem zdJ {w : World} {b : Nat} {cs : Array Value} {t : TypeId} (h : w.heap[b]? = some (.cells cs t (0,0))) : ∀ i,w.cell? ⟨b,i,none⟩ = cs[i]?:=fun i=>by simp [World.cell?,h]
theorem zfb {w : World} {b : Nat} {cs : Array Value} {t : TypeId} (h : w.heap[b]? = some (.cells cs t (0,0))) : ∀ i,w.frozen? ⟨b,i,none⟩ = false:=fun i=>by simp [World.frozen?,h]

def zfd (w : World) (b : Nat) : Nat -> List Value -> World
 | _,[]=>w
 | o,v :: l=>zfd (w.setCell ⟨b,o,none⟩ v) b (o + 1) l
def zjp (cs : Array Value) : Nat -> List Value -> Array Value
 | _,[]=>cs
 | o,v :: l=>zjp (cs.setIfInBounds o v) (o + 1) l

theorem zib {k b : Nat} (hk : k ≠ b) : ∀ (vs : List Value) (w : World) (o : Nat),(zfd w b o vs).heap[k]? = w.heap[k]?
 | [],_,_=>rfl
 | v :: l,w,o=>by
  show (zfd (w.setCell ⟨b,o,none⟩ v) b (o + 1) l).heap[k]? = _
  rw [zib hk l,Below.heap_setCell w _ v k (fun e=>hk e)]
theorem zhw (b : Nat) : ∀ (vs : List Value) (w : World) (o : Nat),(zfd w b o vs).heap.size = w.heap.size
 | [],_,_=>rfl
 | v :: l,w,o=>by
  show (zfd (w.setCell ⟨b,o,none⟩ v) b (o + 1) l).heap.size = _
  rw [zhw b l]
  simp
theorem zhB {b : Nat} {t : TypeId} : ∀ (vs : List Value) (w : World) (o : Nat) (cs : Array Value),w.heap[b]? = some (.cells cs t (0,0)) -> (zfd w b o vs).heap[b]? = some (.cells (zjp cs o vs) t (0,0))
 | [],_,_,_,h=>h
 | v :: l,_,o,_,h=>zhB l _ (o + 1) _ (heap_setCell_same _ _ o _ _ v h)
theorem Rd.put {A : Nat -> Prop} {φ : World -> Prop} {b : Nat} (hb : ¬ A b) : ∀ (vs : List Value) {w : World} (_ : Rd A φ w) (o : Nat),Rd A φ (zfd w b o vs)
 | [],_,h,_=>h
 | v :: l,_,h,o=>Rd.put hb l (h.set hb o v) (o + 1)
theorem Ext.put {a : World} {b : Nat} (hb : a.heap.size <= b) : ∀ (vs : List Value) {w : World} (_ : Ext a w) (o : Nat),Ext a (zfd w b o vs)
 | [],_,h,_=>h
 | v :: l,_,h,o=>Ext.put hb l (h.setCell hb v) (o + 1)
theorem znd (w : World) (b off : Nat) : ({ w with heap:=w.heap.setIfInBounds b (.cells #[] 0 (0,0)) } : World).cell? ⟨b,off,none⟩ = none:=by
 unfold World.cell?
 by_cases hb : b < w.heap.size
 ·simp [hb]
 ·have : (w.heap.setIfInBounds b (Obj.cells #[] 0 (0,0)))[b]? = none:=Array.getElem?_eq_none (by simp; omega)
  simp [this]
theorem zlW {A : Nat -> Prop} {w : World} {X : Type} {size : Nat} {R : El X} {b off n cap : Nat} {xs : List X} (h : Rd A (fun w=>zax size R w (.slice (some ⟨b,off,none⟩) n cap) xs) w) (hs : 0 < size) (hx : xs ≠ []) : A b:=by
 refine Classical.byContradiction fun hn=>?_
 obtain ⟨ao,cap',e,_,_,_,h5⟩:=(h { w with heap:=w.heap.setIfInBounds b (.cells #[] 0 (0,0)) } (fun k hk _=>by
  show (w.heap.setIfInBounds b (.cells #[] 0 (0,0)))[k]? = _
  rw [Array.getElem?_setIfInBounds_ne (fun e=>hn (by rw [e]; exact hk))])).form hs
 obtain ⟨x,hx0⟩ : ∃ x,xs[0]? = some x:=by cases xs with | nil=>exact absurd rfl hx | cons x _=>exact ⟨x,rfl⟩
 obtain ⟨b',off',c,e',hc,_,hcell⟩:=h5 0 x hx0
 simp only [Value.slice.injEq] at e
 rw [e'] at e
 simp only [Option.some.injEq,Addr.mk.injEq,and_true] at e
 obtain ⟨⟨rfl,rfl⟩,_⟩:=e
 have h0 : ∃ u,c[0]? = some u:=⟨c[0]'(by omega),List.getElem?_eq_getElem _⟩
 obtain ⟨u,hu⟩:=h0
 have:=hcell 0 u hu
 rw [znd] at this
 cases this

theorem zdv {A : Nat -> Prop} {w : World} {X : Type} {size : Nat} {R : El X} {v : Value} {xs : List X} (hs : 0 < size) (h : Rd A (fun w=>zax size R w v xs) w) : ∃ css,Rd A (fun w=>zdg size R w css xs /\ Row w size v xs.length css.flatten) w:=by
 obtain ⟨css,he,hr⟩:=h.o
 refine ⟨css,fun w2 h2=>?_⟩
 by_cases hx : xs = []
 ·subst hx
  have : css = []:=List.eq_nil_of_length_eq_zero he.1
  subst this
  obtain ⟨css2,he2,hr2⟩:=h w2 h2
  have : css2 = []:=List.eq_nil_of_length_eq_zero he2.1
  subst this
  exact ⟨zdg.nil _,hr2⟩
 obtain ⟨css2,he2,hr2⟩:=h w2 h2
 suffices hcc : css2 = css by rw [<- hcc]; exact ⟨he2,hr2⟩
 obtain ⟨hl,ao,cap,e,_,_,h0,hc⟩:=hr
 obtain ⟨hl2,ao2,cap2,e2,_,_,_,hc2⟩:=hr2
 rw [e] at e2
 simp only [Value.slice.injEq,true_and] at e2
 obtain ⟨rfl,rfl⟩:=e2
 have hfl : css2.flatten = css.flatten:=by
  refine List.ext_getElem? fun j=>?_
  by_cases hj : j < css.flatten.length
  ·obtain ⟨u,hu⟩ : ∃ u,css.flatten[j]? = some u:=⟨_,List.getElem?_eq_getElem hj⟩
   obtain ⟨u2,hu2⟩ : ∃ u,css2.flatten[j]? = some u:=⟨_,List.getElem?_eq_getElem (by omega)⟩
   obtain ⟨b,off,ea,hcell⟩:=hc j u hu
   obtain ⟨b',off',ea',hcell'⟩:=hc2 j u2 hu2
   rw [ea] at ea'
   simp only [Option.some.injEq,Addr.mk.injEq,and_true] at ea'
   obtain ⟨rfl,rfl⟩:=ea'
   rw [e,ea] at h
   have hA:=zlW h hs hx
   have hb : b < w.heap.size:=by
    by_cases hb : b < w.heap.size
    ·exact hb
    ·simp [World.cell?,Array.getElem?_eq_none (Nat.le_of_not_lt hb)] at hcell
   have hq:=h2 b hA hb
   simp only [World.cell?,hq] at hcell'
   simp only [World.cell?] at hcell
   rw [hu,hu2,<- hcell,<- hcell']
  ·rw [List.getElem?_eq_none (by omega),List.getElem?_eq_none (by omega)]
 have hlen : css2.length = css.length:=by rw [he2.1,he.1]
 refine List.ext_getElem? fun i=>?_
 by_cases hi : i < css.length
 ·have a1 : css[i]? = some css[i]:=List.getElem?_eq_getElem hi
  have a2 : css2[i]? = some (css2[i]'(by omega)):=List.getElem?_eq_getElem _
  rw [a1,a2]
  congr 1
  have l1 : css[i].length = size:=he.sizes _ (List.getElem_mem hi)
  have l2 : (css2[i]'(by omega)).length = size:=he2.sizes _ (List.getElem_mem _)
  refine List.ext_getElem? fun j=>?_
  by_cases hj : j < size
  ·have b1 : css[i][j]? = some (css[i][j]'(by omega)):=List.getElem?_eq_getElem _
   have b2 : (css2[i]'(by omega))[j]? = some ((css2[i]'(by omega))[j]'(by omega)):=List.getElem?_eq_getElem _
   have c1:=zcL hs he.sizes a1 b1
   have c2:=zcL hs he2.sizes a2 b2
   rw [hfl,c1] at c2
   rw [b1,b2,c2]
  ·rw [List.getElem?_eq_none (by omega),List.getElem?_eq_none (by omega)]
 ·rw [List.getElem?_eq_none (by omega),List.getElem?_eq_none (by omega)]

theorem zls {A : Nat -> Prop} {w : World} {X : Type} {size : Nat} {R : El X} {v : Value} {xs : List X} (hs : 0 < size) (h : Rd A (fun w=>zax size R w v xs) w) : ∃ css,Rd A (fun w=>zdg size R w css xs) w /\ Row w size v xs.length css.flatten:=by
 obtain ⟨css,h2⟩:=zdv hs h
 exact ⟨css,h2.left,h2.right.o⟩

theorem zfc {A : Nat -> Prop} {base e size n : Nat} {X : Type} {R : El X} {v : Value} {css : List (List Value)} {xs : List X} {w : World} (hb : ∀ k,base <= k -> k < w.heap.size -> A k) (he : Rd A (fun w=>zdg size R w css xs) w) (ho : w.ownsRow base e size v n css.flatten) (hs : 0 < size) : Rd A (fun w=>zax size R w v xs) w:=by
 have hn : n = xs.length:=by
  have h1:=ho.1
  have h2:=he.o.sizes
  have h3:=he.o.1
  have h4 : css.flatten.length = css.length * size:=by
   clear ho h1 h3 he
   induction css with
   | nil=>simp
   | cons c css ih=>rw [List.flatten_cons,List.length_append,ih (fun d hd=>h2 d (by simp [hd])),h2 c (by simp),List.length_cons,Nat.add_mul]; omega
  rw [h4,h3] at h1
  exact (Nat.eq_of_mul_eq_mul_right hs h1).symm
 subst hn
 exact (he.and ((zdG ho).widen (fun k hk h=>hb k h hk))).imp fun w h=>⟨css,h.1,h.2⟩

theorem zp7 {w : World} {size n b off m cap base : Nat} {cs : List Value} (h : Row w size (.slice (some ⟨b,off,none⟩) m cap) n cs) (hb : base <= b) : Rd (fun k=>base <= k) (fun w=>Row w size (.slice (some ⟨b,off,none⟩) m cap) n cs) w:=fun w2 h2=>by
 by_cases hlt : b < w.heap.size
 ·refine Row.heap h (fun j u b' off' hj he=>?_)
  obtain ⟨m',cap',e⟩:=he
  simp only [Value.slice.injEq,Option.some.injEq,Addr.mk.injEq,and_true] at e
  obtain ⟨⟨rfl,rfl⟩,_⟩:=e
  exact h2 b hb hlt
 ·obtain ⟨h1,ao,c,e,h3,h4,h0,h5⟩:=h
  refine ⟨h1,ao,c,e,h3,h4,h0,fun j u hj=>?_⟩
  obtain ⟨b',off',e',hc⟩:=h5 j u hj
  simp only [Value.slice.injEq] at e
  rw [e'] at e
  simp only [Option.some.injEq,Addr.mk.injEq,and_true] at e
  obtain ⟨⟨rfl,rfl⟩,_⟩:=e
  simp [World.cell?,Array.getElem?_eq_none (Nat.le_of_not_lt hlt)] at hc
theorem zdf.rd {base : Nat} {w : World} {v : Value} {l : List UInt8} (h : zdf base w v l) : Rd (fun k=>base <= k) (fun w=>zbb w v l) w:=by
 obtain ⟨b,off,n,cap,rfl,hb,h⟩:=h
 exact zp7 h hb

theorem zcM {X : Type} {size : Nat} {R : El X} (w : World) (b off cap : Nat) (hc : cap <= maxLen) : zax size R w (.slice (some ⟨b,off,none⟩) 0 cap) [] :=
 ⟨[],zdg.nil w,by simp,_,_,rfl,Nat.zero_le _,hc,(fun h=>by cases h),fun j u hj=>by simp at hj⟩
theorem zm4 {size : Nat} (w : World) (b off cap : Nat) (hc : cap <= maxLen) : Row w size (.slice (some ⟨b,off,none⟩) 0 cap) 0 [] :=
 ⟨by simp,_,_,rfl,Nat.zero_le _,hc,(fun h=>by cases h),fun j u hj=>by simp at hj⟩

theorem zbO : ∀ (vs : List Value) (cs : Array Value) (o : Nat),o + vs.length <= cs.size -> zjp cs o vs = (cs.toList.take o ++ vs ++ cs.toList.drop (o + vs.length)).toArray
 | [],cs,o,_=>by simp [zjp]
 | v :: l,cs,o,h=>by
  simp only [List.length_cons] at h
  show zjp (cs.setIfInBounds o v) (o + 1) l = _
  rw [zbO l _ (o + 1) (by simp; omega)]
  congr 1
  simp only [Array.toList_setIfInBounds,List.length_cons]
  rw [List.take_add_one,List.take_set_of_le (Nat.le_refl o),List.getElem?_set_self (by simpa using (by omega : o < cs.size)),show o + 1 + l.length = o + (l.length + 1) by omega,List.drop_set_of_lt (by omega)]
  simp
theorem zif (cs : Array Value) (vs : List Value) (h : vs.length = cs.size) : zjp cs 0 vs = vs.toArray:=by
 rw [zbO vs cs 0 (by omega)]
 simp [h]
theorem zmB {w : World} {b : Nat} {cs : Array Value} {t : TypeId} (h : w.heap[b]? = some (.cells cs t (0,0))) (vs : List Value) (hl : vs.length = cs.size) : (zfd w b 0 vs).heap[b]? = some (.cells vs.toArray t (0,0)):=by
 rw [<- zif cs vs hl]
 exact zhB vs w 0 cs h

theorem Rd.snoc {A : Nat -> Prop} {X : Type} {R : El X} {size : Nat} {css : List (List Value)} {xs : List X} {c : List Value} {x : X} {w : World} (h1 : Rd A (fun w=>zdg size R w css xs) w) (h2 : Rd A (fun w=>R w c x) w) (hc : c.length = size) : Rd A (fun w=>zdg size R w (css ++ [c]) (xs ++ [x])) w :=
 (h1.and h2).imp fun _ h=>h.1.snoc hc h.2

def zgs {X : Type} (R : El X) (x : X) (e : Int) (r : Value) (w : World) : Prop:=∃ cs : List Value,r = .tuple #[.agg cs.toArray,I e] /\ R w cs x
theorem zeT {X : Type} {R : El X} {x : X} {e : Int} {r : Value} {A : Nat -> Prop} {w : World} (h : Rd A (zgs R x e r) w) : ∃ cs : List Value,r = .tuple #[.agg cs.toArray,I e] /\ Rd A (fun w=>R w cs x) w:=by
 obtain ⟨cs,e1,_⟩:=h.o
 refine ⟨cs,e1,fun w2 h2=>?_⟩
 obtain ⟨cs2,e2,h3⟩:=h w2 h2
 rw [e1] at e2
 have : cs = cs2:=by simpa using e2
 rw [this]
 exact h3
theorem zby {X : Type} {R : El X} {x : X} {e : Int} {cs : List Value} {A : Nat -> Prop} {w : World} (h : Rd A (fun w=>R w cs x) w) : Rd A (zgs R x e (.tuple #[.agg cs.toArray,I e])) w:=h.imp fun _ h=>⟨cs,rfl,h⟩

theorem zl4 {w : World} {v : Sv} {box plan : Value} : zgH w [I v.gen,box,.bool v.busy,I v.now.client,I v.now.token,I v.now.call.kind,I v.now.call.name,I v.now.call.other,I v.now.call.n,plan,I v.says.err,I v.says.n] v ↔ zax 1 zb6 w box v.box /\ zaC w plan v.plan:=by
 constructor
 ·rintro ⟨b,p,e,h1,h2⟩
  simp at e
  obtain ⟨rfl,rfl⟩:=e
  exact ⟨h1,h2⟩
 ·rintro ⟨h1,h2⟩
  exact ⟨box,plan,rfl,h1,h2⟩
theorem zgC {A : Nat -> Prop} {w : World} {cs : List Value} {v : Sv} (h : Rd A (fun w=>zgH w cs v) w) : ∃ box plan,cs = [I v.gen,box,.bool v.busy,I v.now.client,I v.now.token,I v.now.call.kind,I v.now.call.name,I v.now.call.other,I v.now.call.n,plan,I v.says.err,I v.says.n] /\ Rd A (fun w=>zax 1 zb6 w box v.box) w /\ Rd A (fun w=>zaC w plan v.plan) w:=by
 obtain ⟨b,p,rfl,_⟩:=h.o
 have h2:=h.imp fun _ h=>zl4.1 h
 exact ⟨b,p,rfl,h2.left,h2.right⟩
theorem zdm {A : Nat -> Prop} {w : World} {v : Sv} {box plan : Value} (h1 : Rd A (fun w=>zax 1 zb6 w box v.box) w) (h2 : Rd A (fun w=>zaC w plan v.plan) w) : Rd A (fun w=>zgH w [I v.gen,box,.bool v.busy,I v.now.client,I v.now.token,I v.now.call.kind,I v.now.call.name,I v.now.call.other,I v.now.call.n,plan,I v.says.err,I v.says.n] v) w :=
 (h1.and h2).imp fun _ h=>zl4.2 h
theorem zmi {w : World} {c : Cn} {calls box got : Value} : zcJ w [calls,I c.at_,.bool c.sent,I c.gen,box,got] c ↔ zax 4 zdo w calls c.calls /\ zax 1 zb6 w box c.box /\ zax 2 zd6 w got c.got:=by
 constructor
 ·rintro ⟨a,b,d,e,h1,h2,h3⟩
  simp at e
  obtain ⟨rfl,rfl,rfl⟩:=e
  exact ⟨h1,h2,h3⟩
 ·rintro ⟨h1,h2,h3⟩
  exact ⟨calls,box,got,rfl,h1,h2,h3⟩
theorem zdM {A : Nat -> Prop} {w : World} {cs : List Value} {c : Cn} (h : Rd A (fun w=>zcJ w cs c) w) : ∃ calls box got,cs = [calls,I c.at_,.bool c.sent,I c.gen,box,got] /\ Rd A (fun w=>zax 4 zdo w calls c.calls) w /\ Rd A (fun w=>zax 1 zb6 w box c.box) w /\ Rd A (fun w=>zax 2 zd6 w got c.got) w:=by
 obtain ⟨a,b,d,rfl,_⟩:=h.o
 have h2:=h.imp fun _ h=>zmi.1 h
 exact ⟨a,b,d,rfl,h2.left,h2.right.left,h2.right.right⟩
theorem zcF {A : Nat -> Prop} {w : World} {c : Cn} {calls box got : Value} (h1 : Rd A (fun w=>zax 4 zdo w calls c.calls) w) (h2 : Rd A (fun w=>zax 1 zb6 w box c.box) w) (h3 : Rd A (fun w=>zax 2 zd6 w got c.got) w) : Rd A (fun w=>zcJ w [calls,I c.at_,.bool c.sent,I c.gen,box,got] c) w :=
 (h1.and (h2.and h3)).imp fun _ h=>zmi.2 h

open Go Go.RowKit

abbrev za1 (m : Mc) (c u a p box plan cl : Value) : List Value :=
 [c,u,a,p,I m.server.gen,box,.bool m.server.busy,I m.server.now.client,I m.server.now.token,I m.server.now.call.kind,I m.server.now.call.name,I m.server.now.call.other,I m.server.now.call.n,plan,I m.server.says.err,I m.server.says.n,.bool m.up,I m.pause,I m.falls,cl]

structure RdM (A : Nat -> Prop) (w : World) (m : Mc) (c u a p box plan cl : Value) : Prop where
 cells : Rd A (fun w=>zbI w c m.store.cells) w
 undo : Rd A (fun w=>zaC w u m.store.undo) w
 answers : Rd A (fun w=>zax 4 zhq w a m.store.answers) w
 past : Rd A (fun w=>zax 6 zgI w p m.store.past) w
 box : Rd A (fun w=>zax 1 zb6 w box m.server.box) w
 plan : Rd A (fun w=>zaC w plan m.server.plan) w
 clients : Rd A (fun w=>zax 6 zcJ w cl m.clients) w

section
variable {A B : Nat -> Prop} {w w' : World} {m : Mc} {c u a p box plan cl : Value}
theorem RdM.ext (h : RdM A w m c u a p box plan cl) (he : Ext w w') : RdM A w' m c u a p box plan cl:=⟨h.cells.ext he,h.undo.ext he,h.answers.ext he,h.past.ext he,h.box.ext he,h.plan.ext he,h.clients.ext he⟩
theorem RdM.widen (h : RdM A w m c u a p box plan cl) (hi : ∀ k,k < w.heap.size -> A k -> B k) : RdM B w m c u a p box plan cl:=⟨h.cells.widen hi,h.undo.widen hi,h.answers.widen hi,h.past.widen hi,h.box.widen hi,h.plan.widen hi,h.clients.widen hi⟩
theorem RdM.set (h : RdM A w m c u a p box plan cl) {b : Nat} (hb : ¬ A b) (i : Nat) (x : Value) : RdM A (w.setCell ⟨b,i,none⟩ x) m c u a p box plan cl:=⟨h.cells.set hb i x,h.undo.set hb i x,h.answers.set hb i x,h.past.set hb i x,h.box.set hb i x,h.plan.set hb i x,h.clients.set hb i x⟩
theorem RdM.put (h : RdM A w m c u a p box plan cl) {b : Nat} (hb : ¬ A b) (vs : List Value) (o : Nat) : RdM A (zfd w b o vs) m c u a p box plan cl:=⟨Rd.put hb vs h.cells o,Rd.put hb vs h.undo o,Rd.put hb vs h.answers o,Rd.put hb vs h.past o,Rd.put hb vs h.box o,Rd.put hb vs h.plan o,Rd.put hb vs h.clients o⟩
theorem RdM.mc (h : RdM A w m c u a p box plan cl) : Rd A (fun w=>zdL w (za1 m c u a p box plan cl) m) w :=
 ((zcS h.cells h.undo h.answers h.past).and ((zdm h.box h.plan).and h.clients)).imp fun _ h=>⟨_,_,_,rfl,h.1,h.2.1,h.2.2⟩
theorem zc1 {cs : List Value} (h : Rd A (fun w=>zdL w cs m) w) : ∃ c u a p box plan cl,cs = za1 m c u a p box plan cl /\ RdM A w m c u a p box plan cl:=by
 obtain ⟨s,v,cl,e,⟨c,u,a,p,e1,_⟩,⟨box,plan,e2,_⟩,_⟩:=h.o
 subst e1 e2
 have key : ∀ w',zdL w' cs m -> zcf w' [c,u,a,p] m.store /\ zgH w' _ m.server /\ zax 6 zcJ w' cl m.clients:=fun w' hw=>by
  obtain ⟨s',v',cl',e',h1,h2,h3⟩:=hw
  obtain ⟨c',u',a',p',rfl,_⟩:=id h1
  obtain ⟨box',plan',rfl,_⟩:=id h2
  rw [e] at e'
  simp at e'
  obtain ⟨rfl,rfl,rfl,rfl,rfl,rfl,rfl⟩:=e'
  exact ⟨h1,h2,h3⟩
 have h1:=h.imp fun w' hw=>(key w' hw).1
 have h2:=h.imp fun w' hw=>(key w' hw).2.1
 have h3:=h.imp fun w' hw=>(key w' hw).2.2
 have s1:=h1.imp fun _ h=>zcO.1 h
 have s2:=h2.imp fun _ h=>zl4.1 h
 exact ⟨c,u,a,p,box,plan,cl,e,s1.left,s1.right.left,s1.right.right.left,s1.right.right.right,s2.left,s2.right,h3⟩
theorem RdM.slices (h : RdM A w m c u a p box plan cl) : ∃ ca cc ua uc aa ac pa pc xa xc la lc ka kc,c = .slice ca m.store.cells.length cc /\ u = .slice ua m.store.undo.length uc /\ a = .slice aa m.store.answers.length ac /\ p = .slice pa m.store.past.length pc /\ box = .slice xa m.server.box.length xc /\ plan = .slice la m.server.plan.length lc /\ cl = .slice ka m.clients.length kc:=by
 obtain ⟨ca,cc,h1⟩:=zan h.cells.o
 obtain ⟨ua,uc,h2⟩:=zan h.undo.o
 obtain ⟨aa,ac,h3⟩:=zaf h.answers.o
 obtain ⟨pa,pc,h4⟩:=zaf h.past.o
 obtain ⟨xa,xc,h5⟩:=zaf h.box.o
 obtain ⟨la,lc,h6⟩:=zan h.plan.o
 obtain ⟨ka,kc,h7⟩:=zaf h.clients.o
 exact ⟨ca,cc,ua,uc,aa,ac,pa,pc,xa,xc,la,lc,ka,kc,h1,h2,h3,h4,h5,h6,h7⟩
end
open Go Go.RowKit

structure Made (w w' : World) (b : Nat) (o : Obj) : Prop where
 at_ : b = w.heap.size
 block : w'.heap[b]? = some o
 ext : Ext w w'
 size : w'.heap.size = b + 1
theorem znG (w : World) (o : Obj) : Made w (w.alloc o) w.heap.size o:=⟨rfl,heap_alloc_new w o,(Ext.refl w).alloc o,by simp⟩

structure Wrote (w w' : World) (b : Nat) (cs : Array Value) (t : TypeId) : Prop where
 block : w'.heap[b]? = some (.cells cs t (0,0))
 grown : w.grownBy w' (some b)
 size : w'.heap.size = w.heap.size
theorem wrote {w : World} {b off : Nat} {cs : Array Value} {t : TypeId} (h : w.heap[b]? = some (.cells cs t (0,0))) (vs : List Value) : Wrote w (zfd w b off vs) b (zjp cs off vs) t:=by
 refine ⟨zhB vs w off cs h,?_,zhw b vs w off⟩
 have key : ∀ (vs : List Value) (w : World) (o : Nat),(zfd w b o vs).os = w.os /\ (zfd w b o vs).tape = w.tape /\ (zfd w b o vs).output = w.output:=by
  intro vs
  induction vs with
  | nil=>intro w o; exact ⟨rfl,rfl,rfl⟩
  | cons v l ih=>intro w o; exact ih (w.setCell ⟨b,o,none⟩ v) (o + 1)
 obtain ⟨h1,h2,h3⟩:=key vs w off
 exact ⟨h1,h2,h3,Nat.le_of_eq (zhw b vs w off).symm,fun k _ hk=>zib (fun e=>hk (by rw [e])) vs w off⟩

theorem Made.old {w w' : World} {b : Nat} {o : Obj} (h : Made w w' b o) {k : Nat} {x : Obj} (hk : w.heap[k]? = some x) : w'.heap[k]? = some x:=by
 rw [h.ext.block k (Array.getElem?_eq_some_iff.1 hk).1]
 exact hk
theorem Wrote.old {w w' : World} {b : Nat} {cs : Array Value} {t : TypeId} (h : Wrote w w' b cs t) {k : Nat} {x : Obj} (hk : w.heap[k]? = some x) (hne : k ≠ b) : w'.heap[k]? = some x:=by
 rw [h.grown.block k (Array.getElem?_eq_some_iff.1 hk).1 (fun e=>hne (by simpa using e))]
 exact hk
theorem Wrote.ext {a w w' : World} {b : Nat} {cs : Array Value} {t : TypeId} (h : Wrote w w' b cs t) (he : Ext a w) (hb : a.heap.size <= b) : Ext a w':=he.grown h.grown (fun k hk=>by cases hk; exact hb)
theorem Wrote.rd {w w' : World} {b : Nat} {cs : Array Value} {t : TypeId} (h : Wrote w w' b cs t) {A : Nat -> Prop} {φ : World -> Prop} (hr : Rd A φ w) (hb : ¬ A b) : Rd A φ w':=hr.grown h.grown (fun k hk=>by cases hk; exact hb)
theorem Wrote.owns {w w' : World} {b : Nat} {cs : Array Value} {t : TypeId} (h : Wrote w w' b cs t) {base e size n : Nat} {v : Value} {xs : List Value} (ho : w.ownsRow base e size v n xs) (hb : v.ownBlock ≠ some b) : w'.ownsRow base e size v n xs:=ho.kept h.grown (.inr hb)
theorem Wrote.rdM {w w' : World} {b : Nat} {cs : Array Value} {t : TypeId} (h : Wrote w w' b cs t) {A : Nat -> Prop} {m : Mc} {c u a p box plan cl : Value} (hr : RdM A w m c u a p box plan cl) (hb : ¬ A b) : RdM A w' m c u a p box plan cl :=
 ⟨h.rd hr.cells hb,h.rd hr.undo hb,h.rd hr.answers hb,h.rd hr.past hb,h.rd hr.box hb,h.rd hr.plan hb,h.rd hr.clients hb⟩
theorem zcB {w w' : World} {k : Nat} {x : Obj} (hk : w.heap[k]? = some x) (he : Ext w w') : w'.heap[k]? = some x:=by
 rw [he.block k (Array.getElem?_eq_some_iff.1 hk).1]
 exact hk
theorem zab {w : World} {b i : Nat} {cs : Array Value} {t : TypeId} {u : Value} (h : w.heap[b]? = some (.cells cs t (0,0))) (hi : cs[i]? = some u) : w.cell? ⟨b,i,none⟩ = some u:=by
 rw [zdJ h,hi]

/-! ### The same, hidden, in few signs -/
section
variable {w w' a : World} {b k : Nat} {o x : Obj} {cs : Array Value} {t : TypeId} {A B : Nat -> Prop} {φ : World -> Prop}
theorem zmo (m : Hid (Made w w' b o)) (h : Hid (w.heap[k]? = some x)) : Hid (w'.heap[k]? = some x):=m.o.old h.o
theorem zwg (m : Hid (Wrote w w' b cs t)) (h : Hid (w.heap[k]? = some x)) (d : Hid (b < k)) : Hid (w'.heap[k]? = some x):=m.o.old h.o (Nat.ne_of_gt d.o)
theorem zwl (m : Hid (Wrote w w' b cs t)) (h : Hid (w.heap[k]? = some x)) (d : Hid (k < b)) : Hid (w'.heap[k]? = some x):=m.o.old h.o (Nat.ne_of_lt d.o)
theorem zme (m : Hid (Made w w' b o)) (s : Hid (Rd A φ w)) : Hid (Rd A φ w'):=s.o.ext m.o.ext
theorem zwr (m : Hid (Wrote w w' b cs t)) (s : Hid (Rd A φ w)) (n : Hid (¬ A b)) : Hid (Rd A φ w'):=m.o.rd s.o n.o
theorem zld (h : Hid (w.heap[k]? = some x)) (m : Hid (Made w w' b o)) : Hid (k < b):=by
 unfold Hid
 have q:=(Array.getElem?_eq_some_iff.1 h.o).1
 have q2:=m.o.at_
 omega
theorem zet (e : Hid (Ext a w)) (m : Hid (Made w w' b o)) : Hid (Ext a w'):=e.o.trans m.o.ext
theorem zwe (m : Hid (Wrote w w' b cs t)) (e : Hid (Ext a w)) (h : Hid (a.heap.size <= b)) : Hid (Ext a w'):=m.o.ext e.o h.o
theorem zmb (m : Hid (Made w w' b o)) : Hid (w'.heap[b]? = some o):=m.o.block
theorem zwb (m : Hid (Wrote w w' b cs t)) : Hid (w'.heap[b]? = some (.cells cs t (0,0))):=m.o.block
theorem znb {s n i : Nat} {p q r : Prop} (H : Hid (p /\ q /\ (∀ k,s <= k -> k < s + n -> ¬ B k) /\ r)) (e : Hid (b = s + i)) (hi : i < n) : Hid (¬ B b):=H.o.2.2.1 b (by have:=e.o; omega) (by have:=e.o; omega)
theorem zob {s i : Nat} (e : Hid (b = s + i)) : Hid (s <= b):=by unfold Hid; have:=e.o; omega
theorem znw {C : Nat -> Prop} {g : Nat} (h : Hid (∀ k,C k ↔ (B k /\ k ≠ g))) (n : Hid (¬ B b)) : Hid (¬ C b):=fun q=>n.o ((h.o _).1 q).1
theorem zmd {C : Nat -> Prop} (h : Hid (∀ k,C k ↔ (B k /\ k ≠ b))) (m : Hid (Made w w' b o)) (s : Hid (Rd B φ w)) : Hid (Rd C φ w):=s.o.widen fun k hk q=>(h.o k).2 ⟨q,by have:=m.o.at_; omega⟩
end

section
variable {P : Program} {ops : Array Oper} {rest : List Oper} {o : Oper} {a : Act} {w : World} {Q : Exit -> Act -> World -> Prop}

theorem zfD {ty : TypeId} {x y : Operand} {d : Option Tmp} {t : TypeId} {p : String} {af : Array Edge} {g : Option (Nat × Bool)} (h : Hid (wpList P ops Q (⟨d,.store ty x y,t,p,af,g⟩ :: rest) a w)) : wpList P ops Q (⟨d,.store ty x y,t,p,af,g⟩ :: rest) a w:=h
theorem zss {ty : TypeId} {x y : Operand} {d : Option Tmp} {t : TypeId} {p : String} {af : Array Edge} {g : Option (Nat × Bool)} (h : Hid (wpList P ops Q (⟨d,.store ty x y,t,p,af,g⟩ :: rest) a w)) : wpList P ops Q (⟨d,.store ty x y,t,p,af,g⟩ :: rest) a w:=h
theorem zbV (hg : o.guard = none) (e : TypeId) (n : Nat) (cells : Array Value) (hrun : (execOp a.eval o).run P w = .ok (.value (.slice (some ⟨w.heap.size,0,none⟩) n n)) (w.alloc (.cells cells e)))
  (h : ∀ b w',Hid (Made w w' b (.cells cells e)) -> wpList P ops Q rest (a.put o.dst (.slice (some ⟨b,0,none⟩) n n)) w') : wpList P ops Q (o :: rest) a w:=by
 refine wpList_plain hg fun K hK=>?_
 unfold Oper.wp
 rw [hrun,Oper.upon_value]
 exact hK _ _ (h _ _ (znG w _))

theorem zaj (hg : o.guard = none) (t : TypeId) (x : Operand) (ho : o.op = .box t x) (cells : Array Value) (hx : (a.eval x).cells = cells)
  (h : ∀ b w',Hid (Made w w' b (.cells cells t)) -> wpList P ops Q rest (a.put o.dst (.pointer (some ⟨b,0,none⟩))) w') : wpList P ops Q (o :: rest) a w :=
 Go.Great.wpList_boxTo hg t x ho o.dst rfl w.heap.size rfl cells hx (h _ _ (znG w _))

theorem zae (hg : o.guard = none) (t : TypeId) (cells : Array Value) (hrun : (execOp a.eval o).run P w = .ok (.value (.pointer (some ⟨w.heap.size,0,none⟩))) (w.alloc (.cells cells t)))
  (h : ∀ b w',Hid (Made w w' b (.cells cells t)) -> wpList P ops Q rest (a.put o.dst (.pointer (some ⟨b,0,none⟩))) w') : wpList P ops Q (o :: rest) a w:=by
 refine wpList_plain hg fun K hK=>?_
 unfold Oper.wp
 rw [hrun,Oper.upon_value]
 exact hK _ _ (h _ _ (znG w _))

theorem zn3 {b off : Nat} {cs : Array Value} {t : TypeId} (hg : w.heap[b]? = some (.cells cs t (0,0))) (vs : List Value) (hsub : (cs.toList.drop off).take vs.length = vs) : w.rangeAt b off vs:=fun j v hj=>by
 rw [zdJ hg]
 have hj2 : j < vs.length:=(List.getElem?_eq_some_iff.1 hj).1
 rw [<- hsub,List.getElem?_take,if_pos hj2,List.getElem?_drop] at hj
 rw [<- hj]
 simp

theorem zbT {ρ : Operand -> Value} (ty : TypeId) (x : Operand) (ho : o.op = .load ty x) (b off : Nat) (hx : ρ x = .pointer (some ⟨b,off,none⟩)) {cs : Array Value} {t : TypeId} (hg : w.heap[b]? = some (.cells cs t (0,0)))
  (vs : List Value) (hsub : (cs.toList.drop off).take vs.length = vs) {fs : Array Field} (hu : P.underlying ty = some (.struct fs)) (hi : (P.info? ty).map (·.size) = some vs.length) :
  (execOp ρ o).run P w = .ok (.value (.agg vs.toArray)) w:=by
 unfold execOp
 simp only [ho,hx,Instr.loadAt,Instr.sureAddr,Sem.run_bind,Sem.run_pure,Result.andThen_ok,run_loadVar_mid w b off ty vs (.struct fs) (zn3 hg vs hsub) hu rfl hi]

theorem zfw (hgd : o.guard = none) (ty : TypeId) (x : Operand) (ho : o.op = .load ty x) (b off : Nat) (hx : a.eval x = .pointer (some ⟨b,off,none⟩)) {cs : Array Value} {t : TypeId} (hg : w.heap[b]? = some (.cells cs t (0,0)))
  (vs : List Value) (hsub : (cs.toList.drop off).take vs.length = vs) {fs : Array Field} (hu : P.underlying ty = some (.struct fs)) (hi : (P.info? ty).map (·.size) = some vs.length)
  (h : ∀ v,Hid (v = .agg vs.toArray) -> wpList P ops Q rest (a.put o.dst v) w) : wpList P ops Q (o :: rest) a w:=by
 refine wpList_plain hgd fun K hK=>?_
 unfold Oper.wp
 rw [zbT ty x ho b off hx hg vs hsub hu hi,Oper.upon_value]
 exact hK _ _ (h _ rfl)

theorem zgD (b : Nat) : ∀ (vs : List Value) (o : Nat) (w : World),w.setCells b o vs = zfd w b o vs
 | [],_,_=>rfl
 | v :: l,o,w=>zgD b l (o + 1) (w.setCell ⟨b,o,none⟩ v)

theorem ziw (ty : TypeId) (b off : Nat) (v : Value) (vs : List Value) (hv : v.cells = vs.toArray) {cs : Array Value} {t : TypeId} (hg : w.heap[b]? = some (.cells cs t (0,0))) (hfit : off + vs.length <= cs.size)
  (hi : (P.info? ty).map (·.size) = some vs.length) (h1 : ∀ u ∈ vs,u.oneCell' = true) :
  (Instr.storeAt ty (.pointer (some ⟨b,off,none⟩)) v).run P w = .ok () (zfd w b off vs):=by
 have:=run_storeCells_cells (P:=P) b off vs 0 w (fun j hj=>by
   rw [Nat.add_zero,zdJ hg,Array.getElem?_eq_getElem (by omega)]; rfl) (fun j hj=>zfb hg _) h1
 cases hq : P.info? ty with
 | none=>simp [hq] at hi
 | some i =>
  have hs : vs.length = i.size:=by simp [hq] at hi; omega
  simp only [Nat.add_zero] at this
  rw [<- zgD]
  simp only [Instr.storeAt,Instr.sureAddr,Sem.run_bind,Sem.run_pure,Result.andThen_ok]
  simp [storeVar,sizeOf,typeInfo,hq,hv,hs,this]

theorem zcD (hgd : o.guard = none) (ty : TypeId) (x y : Operand) (ho : o.op = .store ty x y) (b off : Nat) (hx : a.eval x = .pointer (some ⟨b,off,none⟩)) (vs : List Value) (hv : (a.eval y).cells = vs.toArray)
  {cs : Array Value} {t : TypeId} (hg : w.heap[b]? = some (.cells cs t (0,0))) (hfit : off + vs.length <= cs.size) (hi : (P.info? ty).map (·.size) = some vs.length) (h1 : ∀ u ∈ vs,u.oneCell' = true)
  (new : Array Value) (hnew : zjp cs off vs = new) (h : ∀ w',Hid (Wrote w w' b new t) -> wpList P ops Q rest (a.put o.dst undef) w') : wpList P ops Q (o :: rest) a w:=by
 refine wpList_plain hgd fun K hK=>?_
 unfold Oper.wp execOp
 simp only [ho,hx,Sem.run_bind,Sem.run_pure,Result.andThen_ok,ziw ty b off (a.eval y) vs hv hg hfit hi h1]
 have hw : Hid (Wrote w (zfd w b off vs) b new t):=by
  rw [<- hnew]
  exact wrote hg vs
 exact hK _ _ (h _ hw)

theorem zaW (hg : o.guard = none) (t : TypeId) (parts : Array (Nat × Operand)) (ho : o.op = .build t parts) (cells : Array Value) (hf : P.built t (parts.map fun (i,x)=>(i,a.eval x)).toList = some cells)
  (h : ∀ v,Hid (v = .agg cells) -> wpList P ops Q rest (a.put o.dst v) w) : wpList P ops Q (o :: rest) a w:=by
 refine wpList_build hg t parts ho (by rw [hf]; rfl) ?_
 rw [hf]
 exact h _ rfl

theorem zas {w : World} {b : Nat} {cs : Array Value} {t : TypeId} (ty : TypeId) {fs : Array Field} (hg : w.heap[b]? = some (.cells cs t (0,0))) (hu : P.underlying ty = some (.struct fs)) (hi : (P.info? ty).map (·.size) = some cs.size) :
  (loadVar ty ⟨b,0,none⟩).run P w = .ok (.agg cs) w:=run_loadVar_row w b t ty cs (0,0) (.struct fs) hg hu rfl hi
end

section
variable {w w1 w2 : World} {b c s i : Nat} {o o2 : Obj} {B C : Nat -> Prop} {m : Mc} {vc vu va vp vb vl vx : Value} {cs : Array Value} {t : TypeId}
theorem zA0 (m : Hid (Made w w1 b o)) : Hid (b = w.heap.size + 0):=m.o.at_
theorem zA1 (a : Hid (b = s + i)) (m : Hid (Made w w1 b o)) (n : Hid (Made w1 w2 c o2)) : Hid (c = s + (i + 1)):=by
 unfold Hid
 have q:=a.o
 have q1:=m.o.size
 have q2:=n.o.at_
 omega
theorem zNn (h : Hid (∀ k,C k ↔ (B k /\ k ≠ b))) : Hid (¬ C b):=fun q=>((h.o _).1 q).2 rfl
theorem zIn (h : Hid (∀ k,C k ↔ (B k /\ k ≠ b))) : Hid (∀ k,C k -> B k):=fun k q=>((h.o k).1 q).1
theorem zEx (B : Nat -> Prop) (b : Nat) : ∃ X : Nat -> Prop,Hid (∀ k,X k ↔ (B k /\ k ≠ b)):=⟨_,fun _=>Iff.rfl⟩
theorem zOn (m : Hid (Made w1 w2 b o)) (e : Hid (Ext w w1)) : Hid (w.heap.size <= b):=by
 unfold Hid
 have q:=m.o.at_
 have q2:=e.o.size
 omega
theorem zMD (h : Hid (∀ k,C k ↔ (B k /\ k ≠ b))) (n : Hid (Made w w1 b o)) (r : Hid (RdM B w m vc vu va vp vb vl vx)) : Hid (RdM C w m vc vu va vp vb vl vx):=r.o.widen fun k hk q=>(h.o k).2 ⟨q,by have q2:=n.o.at_; omega⟩
theorem zHw (n : Hid (Wrote w w1 b cs t)) (r : Hid (RdM B w m vc vu va vp vb vl vx)) (h : Hid (¬ B b)) : Hid (RdM B w1 m vc vu va vp vb vl vx):=n.o.rdM r.o h.o
end
open Go Go.RowKit

theorem zbx {w w' : World} {k : Nat} {x : Obj} (h : Hid (w.heap[k]? = some x)) (e : Ext w w') : Hid (w'.heap[k]? = some x):=zcB h.o e
theorem zrx {w w' : World} {A : Nat -> Prop} {φ : World -> Prop} (h : Hid (Rd A φ w)) (e : Ext w w') : Hid (Rd A φ w'):=h.o.ext e

section
variable {P : Program} {ops : Array Oper} {rest : List Oper} {o : Oper} {a : Act} {w : World} {Q : Exit -> Act -> World -> Prop}
def zpI (L : List Nat) : Op -> Bool
 | .load ty _=>L.contains ty
 | .store ..=>true
 | .box ..=>true
 | .alloc ..=>true
 | .build ..=>true
 | .buildSlice ..=>true
 | _=>false
def zqw : Op -> Bool
 | .slice ..=>true
 | _=>false
theorem zst {L : List Nat} (_ : zpI L o.op = true) (h : Hid (wpList P ops Q (o :: rest) a w)) : wpList P ops Q (o :: rest) a w:=h
theorem zT (_ : zpI [44,41,31,63] o.op = true) (h : Hid (wpList P ops Q (o :: rest) a w)) : wpList P ops Q (o :: rest) a w:=h
theorem zsc (_ : zqw o.op = true) (h : Hid (wpList P ops Q (o :: rest) a w)) : wpList P ops Q (o :: rest) a w:=h
theorem zc6 (hg : o.guard = none) (n : Nat) (G : Option Addr -> Nat -> Prop) (h1 : ∃ na nc,G na nc /\ (execOp a.eval o).run P w = .ok (.value (.slice na n nc)) w) (h : ∀ na nc,G na nc -> wpList P ops Q rest (a.put o.dst (.slice na n nc)) w) : wpList P ops Q (o :: rest) a w:=by
 obtain ⟨na,nc,hG,hrun⟩:=h1
 refine wpList_plain hg fun K hK=>?_
 unfold Oper.wp
 rw [hrun,Oper.upon_value]
 exact hK _ _ (h na nc hG)
theorem zcv {v : Value} {cs : List Value} (h : Hid (v = .agg cs.toArray)) : v.cells = cs.toArray:=by rw [h.o]; rfl
theorem zah (hgd : o.guard = none) (ty : TypeId) (x : Operand) (ho : o.op = .load ty x) (b : Nat) (hx : a.eval x = .pointer (some ⟨b,0,none⟩)) {cs : List Value} {t : TypeId} (hg : Hid (w.heap[b]? = some (.cells cs.toArray t (0,0))))
  {fs : Array Field} (hu : P.underlying ty = some (.struct fs)) (hi : (P.info? ty).map (·.size) = some cs.length)
  (h : ∀ v,Hid (v = .agg cs.toArray) -> wpList P ops Q rest (a.put o.dst v) w) : wpList P ops Q (o :: rest) a w :=
 zfw hgd ty x ho b 0 hx hg.o cs (by simp) hu hi h
theorem zac (hgd : o.guard = none) (ty : TypeId) (x y : Operand) (ho : o.op = .store ty x y) (b : Nat) (hx : a.eval x = .pointer (some ⟨b,0,none⟩)) (vs : List Value) (hv : (a.eval y).cells = vs.toArray)
  {cs : Array Value} {t : TypeId} (hg : Hid (w.heap[b]? = some (.cells cs t (0,0)))) (hfit : vs.length = cs.size) (hi : (P.info? ty).map (·.size) = some vs.length) (h1 : vs.all (fun u=>u.oneCell') = true)
  (h : ∀ w',Hid (Wrote w w' b vs.toArray t) -> wpList P ops Q rest (a.put o.dst undef) w') : wpList P ops Q (o :: rest) a w :=
 zcD hgd ty x y ho b 0 hx vs hv hg.o (by omega) hi (zbw h1) _ (zif cs vs hfit) h
theorem zbe (hgd : o.guard = none) (ty : TypeId) (x : Operand) (ho : o.op = .load ty x) (b off : Nat) (hx : a.eval x = .pointer (some ⟨b,off,none⟩)) {cs : Array Value} {t : TypeId} (hg : Hid (w.heap[b]? = some (.cells cs t (0,0))))
  (vs : List Value) (hsub : (cs.toList.drop off).take vs.length = vs) {fs : Array Field} (hu : P.underlying ty = some (.struct fs)) (hi : (P.info? ty).map (·.size) = some vs.length)
  (h : ∀ v,Hid (v = .agg vs.toArray) -> wpList P ops Q rest (a.put o.dst v) w) : wpList P ops Q (o :: rest) a w :=
 zfw hgd ty x ho b off hx hg.o vs hsub hu hi h
theorem zai (hgd : o.guard = none) (ty : TypeId) (x y : Operand) (ho : o.op = .store ty x y) (b off : Nat) (hx : a.eval x = .pointer (some ⟨b,off,none⟩)) (vs : List Value) (hv : (a.eval y).cells = vs.toArray)
  {cs : Array Value} {t : TypeId} (hg : Hid (w.heap[b]? = some (.cells cs t (0,0)))) (hfit : (off + vs.length).ble cs.size = true) (hi : (P.info? ty).map (·.size) = some vs.length) (h1 : vs.all (fun u=>u.oneCell') = true)
  (new : List Value) (hnew : cs.toList.take off ++ vs ++ cs.toList.drop (off + vs.length) = new) (h : ∀ w',Hid (Wrote w w' b new.toArray t) -> wpList P ops Q rest (a.put o.dst undef) w') : wpList P ops Q (o :: rest) a w :=
 zcD hgd ty x y ho b off hx vs hv hg.o (Nat.le_of_ble_eq_true hfit) hi (zbw h1) _ ((zbO _ _ _ (Nat.le_of_ble_eq_true hfit)).trans (by rw [hnew])) h
end
end Go.Mk

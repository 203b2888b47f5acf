/- Texts of the proof, merged: Mem8 Mem9 Big Big2 Mem10 Held Math10 Math11 Math12. -/
import Derived.Test.YtdmipnnfooleladGreatJB
import Derived.Deep.MidRow
import Derived.Great.Ranges
import Derived.OrdersHeld

namespace Go.Mk
open Go Go.RowKit

/-- All cells of a box at once. -/
theorem cells_at {w : World} {b : Nat} {cs : Array Value} {t : TypeId} (h : w.heap[b]? = some (.cells cs t (0,0))) : ∀ i,w.cell? ⟨b,i,none⟩ = cs[i]?:=fun i=>by simp [World.cell?,h]
theorem frozen_at {w : World} {b : Nat} {cs : Array Value} {t : TypeId} (h : w.heap[b]? = some (.cells cs t (0,0))) : ∀ i,w.frozen? ⟨b,i,none⟩ = false:=fun i=>by simp [World.frozen?,h]

/-- Cells of a box, one behind the other. -/
def putN (w : World) (b : Nat) : Nat → List Value → World
 | _,[]=>w
 | o,v :: l=>putN (w.setCell ⟨b,o,none⟩ v) b (o + 1) l
def splN (cs : Array Value) : Nat → List Value → Array Value
 | _,[]=>cs
 | o,v :: l=>splN (cs.setIfInBounds o v) (o + 1) l

theorem putN_other {k b : Nat} (hk : k ≠ b) : ∀ (vs : List Value) (w : World) (o : Nat),(putN w b o vs).heap[k]? = w.heap[k]?
 | [],_,_=>rfl
 | v :: l,w,o=>by
  show (putN (w.setCell ⟨b,o,none⟩ v) b (o + 1) l).heap[k]? = _
  rw [putN_other hk l,Below.heap_setCell w _ v k (fun e=>hk e)]
theorem putN_size (b : Nat) : ∀ (vs : List Value) (w : World) (o : Nat),(putN w b o vs).heap.size = w.heap.size
 | [],_,_=>rfl
 | v :: l,w,o=>by
  show (putN (w.setCell ⟨b,o,none⟩ v) b (o + 1) l).heap.size = _
  rw [putN_size b l]
  simp
theorem putN_self {b : Nat} {t : TypeId} : ∀ (vs : List Value) (w : World) (o : Nat) (cs : Array Value),w.heap[b]? = some (.cells cs t (0,0)) → (putN w b o vs).heap[b]? = some (.cells (splN cs o vs) t (0,0))
 | [],_,_,_,h=>h
 | v :: l,_,o,_,h=>putN_self l _ (o + 1) _ (heap_setCell_same _ _ o _ _ v h)
theorem Rd.put {A : Nat → Prop} {φ : World → Prop} {b : Nat} (hb : ¬ A b) : ∀ (vs : List Value) {w : World} (_ : Rd A φ w) (o : Nat),Rd A φ (putN w b o vs)
 | [],_,h,_=>h
 | v :: l,_,h,o=>Rd.put hb l (h.set hb o v) (o + 1)
theorem Ext.put {a : World} {b : Nat} (hb : a.heap.size ≤ b) : ∀ (vs : List Value) {w : World} (_ : Ext a w) (o : Nat),Ext a (putN w b o vs)
 | [],_,h,_=>h
 | v :: l,_,h,o=>Ext.put hb l (h.setCell hb v) (o + 1)
/-- A block whose cells are gone. -/
theorem gone_cell (w : World) (b off : Nat) : ({ w with heap:=w.heap.setIfInBounds b (.cells #[] 0 (0,0)) } : World).cell? ⟨b,off,none⟩ = none:=by
 unfold World.cell?
 by_cases hb : b < w.heap.size
 ·simp [hb]
 ·have : (w.heap.setIfInBounds b (Obj.cells #[] 0 (0,0)))[b]? = none:=Array.getElem?_eq_none (by simp; omega)
  simp [this]
/-- Where a row is read, its block is among those that must stay. -/
theorem rd_row_mem {A : Nat → Prop} {w : World} {X : Type} {size : Nat} {R : El X} {b off n cap : Nat} {xs : List X} (h : Rd A (fun w=>RowOf size R w (.slice (some ⟨b,off,none⟩) n cap) xs) w) (hs : 0 < size) (hx : xs ≠ []) : A b:=by
 refine Classical.byContradiction fun hn=>?_
 obtain ⟨ao,cap',e,_,_,_,h5⟩:=(h { w with heap:=w.heap.setIfInBounds b (.cells #[] 0 (0,0)) } (fun k hk _=>by
  show (w.heap.setIfInBounds b (.cells #[] 0 (0,0)))[k]? = _
  rw [Array.getElem?_setIfInBounds_ne (fun e=>hn (by rw [e]; exact hk))])).form hs
 obtain ⟨x,hx0⟩ : ∃ x,xs[0]? = some x:=by cases xs with | nil=>exact absurd rfl hx | cons x _=>exact ⟨x,rfl⟩
 obtain ⟨b',off',c,e',hc,_,hcell⟩:=h5 0 x hx0
 simp only [Value.slice.injEq] at e
 rw [e'] at e
 simp only [Option.some.injEq,Addr.mk.injEq,and_true] at e
 obtain ⟨⟨rfl,rfl⟩,_⟩:=e
 have h0 : ∃ u,c[0]? = some u:=⟨c[0]'(by omega),List.getElem?_eq_getElem _⟩
 obtain ⟨u,hu⟩:=h0
 have:=hcell 0 u hu
 rw [gone_cell] at this
 cases this

/-- A row, and what its elements are, apart. -/
theorem rd_rowOf2 {A : Nat → Prop} {w : World} {X : Type} {size : Nat} {R : El X} {v : Value} {xs : List X} (hs : 0 < size) (h : Rd A (fun w=>RowOf size R w v xs) w) : ∃ css,Rd A (fun w=>Each size R w css xs ∧ Row w size v xs.length css.flatten) w:=by
 obtain ⟨css,he,hr⟩:=h.out
 refine ⟨css,fun w2 h2=>?_⟩
 by_cases hx : xs = []
 ·subst hx
  have : css = []:=List.eq_nil_of_length_eq_zero he.1
  subst this
  obtain ⟨css2,he2,hr2⟩:=h w2 h2
  have : css2 = []:=List.eq_nil_of_length_eq_zero he2.1
  subst this
  exact ⟨Each.nil _,hr2⟩
 obtain ⟨css2,he2,hr2⟩:=h w2 h2
 suffices hcc : css2 = css by rw [← hcc]; exact ⟨he2,hr2⟩
 obtain ⟨hl,ao,cap,e,_,_,h0,hc⟩:=hr
 obtain ⟨hl2,ao2,cap2,e2,_,_,_,hc2⟩:=hr2
 rw [e] at e2
 simp only [Value.slice.injEq,true_and] at e2
 obtain ⟨rfl,rfl⟩:=e2
 have hfl : css2.flatten = css.flatten:=by
  refine List.ext_getElem? fun j=>?_
  by_cases hj : j < css.flatten.length
  ·obtain ⟨u,hu⟩ : ∃ u,css.flatten[j]? = some u:=⟨_,List.getElem?_eq_getElem hj⟩
   obtain ⟨u2,hu2⟩ : ∃ u,css2.flatten[j]? = some u:=⟨_,List.getElem?_eq_getElem (by omega)⟩
   obtain ⟨b,off,ea,hcell⟩:=hc j u hu
   obtain ⟨b',off',ea',hcell'⟩:=hc2 j u2 hu2
   rw [ea] at ea'
   simp only [Option.some.injEq,Addr.mk.injEq,and_true] at ea'
   obtain ⟨rfl,rfl⟩:=ea'
   rw [e,ea] at h
   have hA:=rd_row_mem h hs hx
   have hb : b < w.heap.size:=by
    by_cases hb : b < w.heap.size
    ·exact hb
    ·simp [World.cell?,Array.getElem?_eq_none (Nat.le_of_not_lt hb)] at hcell
   have hq:=h2 b hA hb
   simp only [World.cell?,hq] at hcell'
   simp only [World.cell?] at hcell
   rw [hu,hu2,← hcell,← hcell']
  ·rw [List.getElem?_eq_none (by omega),List.getElem?_eq_none (by omega)]
 have hlen : css2.length = css.length:=by rw [he2.1,he.1]
 refine List.ext_getElem? fun i=>?_
 by_cases hi : i < css.length
 ·have a1 : css[i]? = some css[i]:=List.getElem?_eq_getElem hi
  have a2 : css2[i]? = some (css2[i]'(by omega)):=List.getElem?_eq_getElem _
  rw [a1,a2]
  congr 1
  have l1 : css[i].length = size:=he.sizes _ (List.getElem_mem hi)
  have l2 : (css2[i]'(by omega)).length = size:=he2.sizes _ (List.getElem_mem _)
  refine List.ext_getElem? fun j=>?_
  by_cases hj : j < size
  ·have b1 : css[i][j]? = some (css[i][j]'(by omega)):=List.getElem?_eq_getElem _
   have b2 : (css2[i]'(by omega))[j]? = some ((css2[i]'(by omega))[j]'(by omega)):=List.getElem?_eq_getElem _
   have c1:=flatten_get hs he.sizes a1 b1
   have c2:=flatten_get hs he2.sizes a2 b2
   rw [hfl,c1] at c2
   rw [b1,b2,c2]
  ·rw [List.getElem?_eq_none (by omega),List.getElem?_eq_none (by omega)]
 ·rw [List.getElem?_eq_none (by omega),List.getElem?_eq_none (by omega)]

theorem rd_rowOf {A : Nat → Prop} {w : World} {X : Type} {size : Nat} {R : El X} {v : Value} {xs : List X} (hs : 0 < size) (h : Rd A (fun w=>RowOf size R w v xs) w) : ∃ css,Rd A (fun w=>Each size R w css xs) w ∧ Row w size v xs.length css.flatten:=by
 obtain ⟨css,h2⟩:=rd_rowOf2 hs h
 exact ⟨css,h2.left,h2.right.out⟩

/-- A row in memory of its own, of elements that lie in A. -/
theorem rd_own_of {A : Nat → Prop} {base e size n : Nat} {X : Type} {R : El X} {v : Value} {css : List (List Value)} {xs : List X} {w : World} (hb : ∀ k,base ≤ k → k < w.heap.size → A k) (he : Rd A (fun w=>Each size R w css xs) w) (ho : w.ownsRow base e size v n css.flatten) (hs : 0 < size) : Rd A (fun w=>RowOf size R w v xs) w:=by
 have hn : n = xs.length:=by
  have h1:=ho.1
  have h2:=he.out.sizes
  have h3:=he.out.1
  have h4 : css.flatten.length = css.length * size:=by
   clear ho h1 h3 he
   induction css with
   | nil=>simp
   | cons c css ih=>rw [List.flatten_cons,List.length_append,ih (fun d hd=>h2 d (by simp [hd])),h2 c (by simp),List.length_cons,Nat.add_mul]; omega
  rw [h4,h3] at h1
  exact (Nat.eq_of_mul_eq_mul_right hs h1).symm
 subst hn
 exact (he.and ((rd_owns ho).widen (fun k hk h=>hb k h hk))).imp fun w h=>⟨css,h.1,h.2⟩

theorem rd_at {w : World} {size n b off m cap base : Nat} {cs : List Value} (h : Row w size (.slice (some ⟨b,off,none⟩) m cap) n cs) (hb : base ≤ b) : Rd (fun k=>base ≤ k) (fun w=>Row w size (.slice (some ⟨b,off,none⟩) m cap) n cs) w:=fun w2 h2=>by
 by_cases hlt : b < w.heap.size
 ·refine Row.heap h (fun j u b' off' hj he=>?_)
  obtain ⟨m',cap',e⟩:=he
  simp only [Value.slice.injEq,Option.some.injEq,Addr.mk.injEq,and_true] at e
  obtain ⟨⟨rfl,rfl⟩,_⟩:=e
  exact h2 b hb hlt
 ·obtain ⟨h1,ao,c,e,h3,h4,h0,h5⟩:=h
  refine ⟨h1,ao,c,e,h3,h4,h0,fun j u hj=>?_⟩
  obtain ⟨b',off',e',hc⟩:=h5 j u hj
  simp only [Value.slice.injEq] at e
  rw [e'] at e
  simp only [Option.some.injEq,Addr.mk.injEq,and_true] at e
  obtain ⟨⟨rfl,rfl⟩,_⟩:=e
  simp [World.cell?,Array.getElem?_eq_none (Nat.le_of_not_lt hlt)] at hc
theorem BytesAt.rd {base : Nat} {w : World} {v : Value} {l : List UInt8} (h : BytesAt base w v l) : Rd (fun k=>base ≤ k) (fun w=>Bytes w v l) w:=by
 obtain ⟨b,off,n,cap,rfl,hb,h⟩:=h
 exact rd_at h hb

/-- A slice that is empty. -/
theorem rowOf_empty {X : Type} {size : Nat} {R : El X} (w : World) (b off cap : Nat) (hc : cap ≤ maxLen) : RowOf size R w (.slice (some ⟨b,off,none⟩) 0 cap) [] :=
 ⟨[],Each.nil w,by simp,_,_,rfl,Nat.zero_le _,hc,(fun h=>by cases h),fun j u hj=>by simp at hj⟩
theorem row_empty {size : Nat} (w : World) (b off cap : Nat) (hc : cap ≤ maxLen) : Row w size (.slice (some ⟨b,off,none⟩) 0 cap) 0 [] :=
 ⟨by simp,_,_,rfl,Nat.zero_le _,hc,(fun h=>by cases h),fun j u hj=>by simp at hj⟩

theorem splN_eq : ∀ (vs : List Value) (cs : Array Value) (o : Nat),o + vs.length ≤ cs.size → splN cs o vs = (cs.toList.take o ++ vs ++ cs.toList.drop (o + vs.length)).toArray
 | [],cs,o,_=>by simp [splN]
 | v :: l,cs,o,h=>by
  simp only [List.length_cons] at h
  show splN (cs.setIfInBounds o v) (o + 1) l = _
  rw [splN_eq l _ (o + 1) (by simp; omega)]
  congr 1
  simp only [Array.toList_setIfInBounds,List.length_cons]
  rw [List.take_add_one,List.take_set_of_le (Nat.le_refl o),List.getElem?_set_self (by simpa using (by omega : o < cs.size)),show o + 1 + l.length = o + (l.length + 1) by omega,List.drop_set_of_lt (by omega)]
  simp
theorem splN_all (cs : Array Value) (vs : List Value) (h : vs.length = cs.size) : splN cs 0 vs = vs.toArray:=by
 rw [splN_eq vs cs 0 (by omega)]
 simp [h]
/-- A box that is written whole. -/
theorem put_all {w : World} {b : Nat} {cs : Array Value} {t : TypeId} (h : w.heap[b]? = some (.cells cs t (0,0))) (vs : List Value) (hl : vs.length = cs.size) : (putN w b 0 vs).heap[b]? = some (.cells vs.toArray t (0,0)):=by
 rw [← splN_all cs vs hl]
 exact putN_self vs w 0 cs h

theorem Rd.snoc {A : Nat → Prop} {X : Type} {R : El X} {size : Nat} {css : List (List Value)} {xs : List X} {c : List Value} {x : X} {w : World} (h1 : Rd A (fun w=>Each size R w css xs) w) (h2 : Rd A (fun w=>R w c x) w) (hc : c.length = size) : Rd A (fun w=>Each size R w (css ++ [c]) (xs ++ [x])) w :=
 (h1.and h2).imp fun _ h=>h.1.snoc hc h.2

/-- A struct, and what is wrong. -/
def TupE {X : Type} (R : El X) (x : X) (e : Int) (r : Value) (w : World) : Prop:=∃ cs : List Value,r = .tuple #[.agg cs.toArray,I e] ∧ R w cs x
theorem rd_tupE {X : Type} {R : El X} {x : X} {e : Int} {r : Value} {A : Nat → Prop} {w : World} (h : Rd A (TupE R x e r) w) : ∃ cs : List Value,r = .tuple #[.agg cs.toArray,I e] ∧ Rd A (fun w=>R w cs x) w:=by
 obtain ⟨cs,e1,_⟩:=h.out
 refine ⟨cs,e1,fun w2 h2=>?_⟩
 obtain ⟨cs2,e2,h3⟩:=h w2 h2
 rw [e1] at e2
 have : cs = cs2:=by simpa using e2
 rw [this]
 exact h3
theorem tupE_rd {X : Type} {R : El X} {x : X} {e : Int} {cs : List Value} {A : Nat → Prop} {w : World} (h : Rd A (fun w=>R w cs x) w) : Rd A (TupE R x e (.tuple #[.agg cs.toArray,I e])) w:=h.imp fun _ h=>⟨cs,rfl,h⟩

theorem sv_iff {w : World} {v : Sv} {box plan : Value} : elSv w [I v.gen,box,.bool v.busy,I v.now.client,I v.now.token,I v.now.call.kind,I v.now.call.name,I v.now.call.other,I v.now.call.n,plan,I v.says.err,I v.says.n] v ↔ RowOf 1 elBs w box v.box ∧ Writes w plan v.plan:=by
 constructor
 ·rintro ⟨b,p,e,h1,h2⟩
  simp at e
  obtain ⟨rfl,rfl⟩:=e
  exact ⟨h1,h2⟩
 ·rintro ⟨h1,h2⟩
  exact ⟨box,plan,rfl,h1,h2⟩
theorem rd_sv {A : Nat → Prop} {w : World} {cs : List Value} {v : Sv} (h : Rd A (fun w=>elSv w cs v) w) : ∃ box plan,cs = [I v.gen,box,.bool v.busy,I v.now.client,I v.now.token,I v.now.call.kind,I v.now.call.name,I v.now.call.other,I v.now.call.n,plan,I v.says.err,I v.says.n] ∧ Rd A (fun w=>RowOf 1 elBs w box v.box) w ∧ Rd A (fun w=>Writes w plan v.plan) w:=by
 obtain ⟨b,p,rfl,_⟩:=h.out
 have h2:=h.imp fun _ h=>sv_iff.1 h
 exact ⟨b,p,rfl,h2.left,h2.right⟩
theorem sv_rd {A : Nat → Prop} {w : World} {v : Sv} {box plan : Value} (h1 : Rd A (fun w=>RowOf 1 elBs w box v.box) w) (h2 : Rd A (fun w=>Writes w plan v.plan) w) : Rd A (fun w=>elSv w [I v.gen,box,.bool v.busy,I v.now.client,I v.now.token,I v.now.call.kind,I v.now.call.name,I v.now.call.other,I v.now.call.n,plan,I v.says.err,I v.says.n] v) w :=
 (h1.and h2).imp fun _ h=>sv_iff.2 h
theorem cn_iff {w : World} {c : Cn} {calls box got : Value} : elCn w [calls,I c.at_,.bool c.sent,I c.gen,box,got] c ↔ RowOf 4 elCl w calls c.calls ∧ RowOf 1 elBs w box c.box ∧ RowOf 2 elRp w got c.got:=by
 constructor
 ·rintro ⟨a,b,d,e,h1,h2,h3⟩
  simp at e
  obtain ⟨rfl,rfl,rfl⟩:=e
  exact ⟨h1,h2,h3⟩
 ·rintro ⟨h1,h2,h3⟩
  exact ⟨calls,box,got,rfl,h1,h2,h3⟩
theorem rd_cn {A : Nat → Prop} {w : World} {cs : List Value} {c : Cn} (h : Rd A (fun w=>elCn w cs c) w) : ∃ calls box got,cs = [calls,I c.at_,.bool c.sent,I c.gen,box,got] ∧ Rd A (fun w=>RowOf 4 elCl w calls c.calls) w ∧ Rd A (fun w=>RowOf 1 elBs w box c.box) w ∧ Rd A (fun w=>RowOf 2 elRp w got c.got) w:=by
 obtain ⟨a,b,d,rfl,_⟩:=h.out
 have h2:=h.imp fun _ h=>cn_iff.1 h
 exact ⟨a,b,d,rfl,h2.left,h2.right.left,h2.right.right⟩
theorem cn_rd {A : Nat → Prop} {w : World} {c : Cn} {calls box got : Value} (h1 : Rd A (fun w=>RowOf 4 elCl w calls c.calls) w) (h2 : Rd A (fun w=>RowOf 1 elBs w box c.box) w) (h3 : Rd A (fun w=>RowOf 2 elRp w got c.got) w) : Rd A (fun w=>elCn w [calls,I c.at_,.bool c.sent,I c.gen,box,got] c) w :=
 (h1.and (h2.and h3)).imp fun _ h=>cn_iff.2 h

end Go.Mk

namespace Go.Mk
open Go Go.RowKit

/-- The cells of a machine. -/
abbrev cells20 (m : Mc) (c u a p box plan cl : Value) : List Value :=
 [c,u,a,p,I m.server.gen,box,.bool m.server.busy,I m.server.now.client,I m.server.now.token,I m.server.now.call.kind,I m.server.now.call.name,I m.server.now.call.other,I m.server.now.call.n,plan,I m.server.says.err,I m.server.says.n,.bool m.up,I m.pause,I m.falls,cl]

structure RdM (A : Nat → Prop) (w : World) (m : Mc) (c u a p box plan cl : Value) : Prop where
 cells : Rd A (fun w=>Ints w c m.store.cells) w
 undo : Rd A (fun w=>Writes w u m.store.undo) w
 answers : Rd A (fun w=>RowOf 4 elAn w a m.store.answers) w
 past : Rd A (fun w=>RowOf 6 elRq w p m.store.past) w
 box : Rd A (fun w=>RowOf 1 elBs w box m.server.box) w
 plan : Rd A (fun w=>Writes w plan m.server.plan) w
 clients : Rd A (fun w=>RowOf 6 elCn w cl m.clients) w

section
variable {A B : Nat → Prop} {w w' : World} {m : Mc} {c u a p box plan cl : Value}
theorem RdM.ext (h : RdM A w m c u a p box plan cl) (he : Ext w w') : RdM A w' m c u a p box plan cl:=⟨h.cells.ext he,h.undo.ext he,h.answers.ext he,h.past.ext he,h.box.ext he,h.plan.ext he,h.clients.ext he⟩
theorem RdM.widen (h : RdM A w m c u a p box plan cl) (hi : ∀ k,k < w.heap.size → A k → B k) : RdM B w m c u a p box plan cl:=⟨h.cells.widen hi,h.undo.widen hi,h.answers.widen hi,h.past.widen hi,h.box.widen hi,h.plan.widen hi,h.clients.widen hi⟩
theorem RdM.set (h : RdM A w m c u a p box plan cl) {b : Nat} (hb : ¬ A b) (i : Nat) (x : Value) : RdM A (w.setCell ⟨b,i,none⟩ x) m c u a p box plan cl:=⟨h.cells.set hb i x,h.undo.set hb i x,h.answers.set hb i x,h.past.set hb i x,h.box.set hb i x,h.plan.set hb i x,h.clients.set hb i x⟩
theorem RdM.put (h : RdM A w m c u a p box plan cl) {b : Nat} (hb : ¬ A b) (vs : List Value) (o : Nat) : RdM A (putN w b o vs) m c u a p box plan cl:=⟨Rd.put hb vs h.cells o,Rd.put hb vs h.undo o,Rd.put hb vs h.answers o,Rd.put hb vs h.past o,Rd.put hb vs h.box o,Rd.put hb vs h.plan o,Rd.put hb vs h.clients o⟩
theorem RdM.mc (h : RdM A w m c u a p box plan cl) : Rd A (fun w=>elMc w (cells20 m c u a p box plan cl) m) w :=
 ((st_rd h.cells h.undo h.answers h.past).and ((sv_rd h.box h.plan).and h.clients)).imp fun _ h=>⟨_,_,_,rfl,h.1,h.2.1,h.2.2⟩
theorem rd_mc {cs : List Value} (h : Rd A (fun w=>elMc w cs m) w) : ∃ c u a p box plan cl,cs = cells20 m c u a p box plan cl ∧ RdM A w m c u a p box plan cl:=by
 obtain ⟨s,v,cl,e,⟨c,u,a,p,e1,_⟩,⟨box,plan,e2,_⟩,_⟩:=h.out
 subst e1 e2
 have key : ∀ w',elMc w' cs m → elSt w' [c,u,a,p] m.store ∧ elSv w' _ m.server ∧ RowOf 6 elCn w' cl m.clients:=fun w' hw=>by
  obtain ⟨s',v',cl',e',h1,h2,h3⟩:=hw
  obtain ⟨c',u',a',p',rfl,_⟩:=id h1
  obtain ⟨box',plan',rfl,_⟩:=id h2
  rw [e] at e'
  simp at e'
  obtain ⟨rfl,rfl,rfl,rfl,rfl,rfl,rfl⟩:=e'
  exact ⟨h1,h2,h3⟩
 have h1:=h.imp fun w' hw=>(key w' hw).1
 have h2:=h.imp fun w' hw=>(key w' hw).2.1
 have h3:=h.imp fun w' hw=>(key w' hw).2.2
 have s1:=h1.imp fun _ h=>st_iff.1 h
 have s2:=h2.imp fun _ h=>sv_iff.1 h
 exact ⟨c,u,a,p,box,plan,cl,e,s1.left,s1.right.left,s1.right.right.left,s1.right.right.right,s2.left,s2.right,h3⟩
/-- .. spelt as slices. -/
theorem RdM.slices (h : RdM A w m c u a p box plan cl) : ∃ ca cc ua uc aa ac pa pc xa xc la lc ka kc,c = .slice ca m.store.cells.length cc ∧ u = .slice ua m.store.undo.length uc ∧ a = .slice aa m.store.answers.length ac ∧ p = .slice pa m.store.past.length pc ∧ box = .slice xa m.server.box.length xc ∧ plan = .slice la m.server.plan.length lc ∧ cl = .slice ka m.clients.length kc:=by
 obtain ⟨ca,cc,h1⟩:=row_slice h.cells.out
 obtain ⟨ua,uc,h2⟩:=row_slice h.undo.out
 obtain ⟨aa,ac,h3⟩:=rowOf_slice h.answers.out
 obtain ⟨pa,pc,h4⟩:=rowOf_slice h.past.out
 obtain ⟨xa,xc,h5⟩:=rowOf_slice h.box.out
 obtain ⟨la,lc,h6⟩:=row_slice h.plan.out
 obtain ⟨ka,kc,h7⟩:=rowOf_slice h.clients.out
 exact ⟨ca,cc,ua,uc,aa,ac,pa,pc,xa,xc,la,lc,ka,kc,h1,h2,h3,h4,h5,h6,h7⟩
end
end Go.Mk

namespace Go.Mk
open Go Go.RowKit

/-- A new block. -/
structure Made (w w' : World) (b : Nat) (o : Obj) : Prop where
 at_ : b = w.heap.size
 block : w'.heap[b]? = some o
 ext : Ext w w'
 size : w'.heap.size = b + 1
theorem made (w : World) (o : Obj) : Made w (w.alloc o) w.heap.size o:=⟨rfl,heap_alloc_new w o,(Ext.refl w).alloc o,by simp⟩

/-- A box that was written. -/
structure Wrote (w w' : World) (b : Nat) (cs : Array Value) (t : TypeId) : Prop where
 block : w'.heap[b]? = some (.cells cs t (0,0))
 grown : w.grownBy w' (some b)
 size : w'.heap.size = w.heap.size
theorem wrote {w : World} {b off : Nat} {cs : Array Value} {t : TypeId} (h : w.heap[b]? = some (.cells cs t (0,0))) (vs : List Value) : Wrote w (putN w b off vs) b (splN cs off vs) t:=by
 refine ⟨putN_self vs w off cs h,?_,putN_size b vs w off⟩
 have key : ∀ (vs : List Value) (w : World) (o : Nat),(putN w b o vs).os = w.os ∧ (putN w b o vs).tape = w.tape ∧ (putN w b o vs).output = w.output:=by
  intro vs
  induction vs with
  | nil=>intro w o; exact ⟨rfl,rfl,rfl⟩
  | cons v l ih=>intro w o; exact ih (w.setCell ⟨b,o,none⟩ v) (o + 1)
 obtain ⟨h1,h2,h3⟩:=key vs w off
 exact ⟨h1,h2,h3,Nat.le_of_eq (putN_size b vs w off).symm,fun k _ hk=>putN_other (fun e=>hk (by rw [e])) vs w off⟩

theorem Made.old {w w' : World} {b : Nat} {o : Obj} (h : Made w w' b o) {k : Nat} {x : Obj} (hk : w.heap[k]? = some x) : w'.heap[k]? = some x:=by
 rw [h.ext.block k (Array.getElem?_eq_some_iff.1 hk).1]
 exact hk
theorem Wrote.old {w w' : World} {b : Nat} {cs : Array Value} {t : TypeId} (h : Wrote w w' b cs t) {k : Nat} {x : Obj} (hk : w.heap[k]? = some x) (hne : k ≠ b) : w'.heap[k]? = some x:=by
 rw [h.grown.block k (Array.getElem?_eq_some_iff.1 hk).1 (fun e=>hne (by simpa using e))]
 exact hk
theorem Wrote.ext {a w w' : World} {b : Nat} {cs : Array Value} {t : TypeId} (h : Wrote w w' b cs t) (he : Ext a w) (hb : a.heap.size ≤ b) : Ext a w':=he.grown h.grown (fun k hk=>by cases hk; exact hb)
theorem Wrote.rd {w w' : World} {b : Nat} {cs : Array Value} {t : TypeId} (h : Wrote w w' b cs t) {A : Nat → Prop} {φ : World → Prop} (hr : Rd A φ w) (hb : ¬ A b) : Rd A φ w':=hr.grown h.grown (fun k hk=>by cases hk; exact hb)
theorem Wrote.owns {w w' : World} {b : Nat} {cs : Array Value} {t : TypeId} (h : Wrote w w' b cs t) {base e size n : Nat} {v : Value} {xs : List Value} (ho : w.ownsRow base e size v n xs) (hb : v.ownBlock ≠ some b) : w'.ownsRow base e size v n xs:=ho.kept h.grown (.inr hb)
theorem Wrote.rdM {w w' : World} {b : Nat} {cs : Array Value} {t : TypeId} (h : Wrote w w' b cs t) {A : Nat → Prop} {m : Mc} {c u a p box plan cl : Value} (hr : RdM A w m c u a p box plan cl) (hb : ¬ A b) : RdM A w' m c u a p box plan cl :=
 ⟨h.rd hr.cells hb,h.rd hr.undo hb,h.rd hr.answers hb,h.rd hr.past hb,h.rd hr.box hb,h.rd hr.plan hb,h.rd hr.clients hb⟩
theorem blk_ext {w w' : World} {k : Nat} {x : Obj} (hk : w.heap[k]? = some x) (he : Ext w w') : w'.heap[k]? = some x:=by
 rw [he.block k (Array.getElem?_eq_some_iff.1 hk).1]
 exact hk
theorem cell_of {w : World} {b i : Nat} {cs : Array Value} {t : TypeId} {u : Value} (h : w.heap[b]? = some (.cells cs t (0,0))) (hi : cs[i]? = some u) : w.cell? ⟨b,i,none⟩ = some u:=by
 rw [cells_at h,hi]

/-! ### The same, hidden, in few signs -/
section
variable {w w' a : World} {b k : Nat} {o x : Obj} {cs : Array Value} {t : TypeId} {A B : Nat → Prop} {φ : World → Prop}
theorem zmo (m : Hid (Made w w' b o)) (h : Hid (w.heap[k]? = some x)) : Hid (w'.heap[k]? = some x):=m.out.old h.out
theorem zwg (m : Hid (Wrote w w' b cs t)) (h : Hid (w.heap[k]? = some x)) (d : Hid (b < k)) : Hid (w'.heap[k]? = some x):=m.out.old h.out (Nat.ne_of_gt d.out)
theorem zwl (m : Hid (Wrote w w' b cs t)) (h : Hid (w.heap[k]? = some x)) (d : Hid (k < b)) : Hid (w'.heap[k]? = some x):=m.out.old h.out (Nat.ne_of_lt d.out)
theorem zme (m : Hid (Made w w' b o)) (s : Hid (Rd A φ w)) : Hid (Rd A φ w'):=s.out.ext m.out.ext
theorem zwr (m : Hid (Wrote w w' b cs t)) (s : Hid (Rd A φ w)) (n : Hid (¬ A b)) : Hid (Rd A φ w'):=m.out.rd s.out n.out
theorem zld (h : Hid (w.heap[k]? = some x)) (m : Hid (Made w w' b o)) : Hid (k < b):=by
 unfold Hid
 have q:=(Array.getElem?_eq_some_iff.1 h.out).1
 have q2:=m.out.at_
 omega
theorem zet (e : Hid (Ext a w)) (m : Hid (Made w w' b o)) : Hid (Ext a w'):=e.out.trans m.out.ext
theorem zwe (m : Hid (Wrote w w' b cs t)) (e : Hid (Ext a w)) (h : Hid (a.heap.size ≤ b)) : Hid (Ext a w'):=m.out.ext e.out h.out
theorem zmb (m : Hid (Made w w' b o)) : Hid (w'.heap[b]? = some o):=m.out.block
theorem zwb (m : Hid (Wrote w w' b cs t)) : Hid (w'.heap[b]? = some (.cells cs t (0,0))):=m.out.block
theorem znb {s n i : Nat} {p q r : Prop} (H : Hid (p ∧ q ∧ (∀ k,s ≤ k → k < s + n → ¬ B k) ∧ r)) (e : Hid (b = s + i)) (hi : i < n) : Hid (¬ B b):=H.out.2.2.1 b (by have:=e.out; omega) (by have:=e.out; omega)
theorem zob {s i : Nat} (e : Hid (b = s + i)) : Hid (s ≤ b):=by unfold Hid; have:=e.out; omega
theorem znw {C : Nat → Prop} {g : Nat} (h : Hid (∀ k,C k ↔ (B k ∧ k ≠ g))) (n : Hid (¬ B b)) : Hid (¬ C b):=fun q=>n.out ((h.out _).1 q).1
theorem zmd {C : Nat → Prop} (h : Hid (∀ k,C k ↔ (B k ∧ k ≠ b))) (m : Hid (Made w w' b o)) (s : Hid (Rd B φ w)) : Hid (Rd C φ w):=s.out.widen fun k hk q=>(h.out k).2 ⟨q,by have:=m.out.at_; omega⟩
end

section
variable {P : Program} {ops : Array Oper} {rest : List Oper} {o : Oper} {a : Act} {w : World} {Q : Exit → Act → World → Prop}

theorem stop_store {ty : TypeId} {x y : Operand} {d : Option Tmp} {t : TypeId} {p : String} {af : Array Edge} {g : Option (Nat × Bool)} (h : Hid (wpList P ops Q (⟨d,.store ty x y,t,p,af,g⟩ :: rest) a w)) : wpList P ops Q (⟨d,.store ty x y,t,p,af,g⟩ :: rest) a w:=h
theorem zss {ty : TypeId} {x y : Operand} {d : Option Tmp} {t : TypeId} {p : String} {af : Array Edge} {g : Option (Nat × Bool)} (h : Hid (wpList P ops Q (⟨d,.store ty x y,t,p,af,g⟩ :: rest) a w)) : wpList P ops Q (⟨d,.store ty x y,t,p,af,g⟩ :: rest) a w:=h
/-- A slice that is written out. -/
theorem wpList_litB (hg : o.guard = none) (e : TypeId) (n : Nat) (cells : Array Value) (hrun : (execOp a.eval o).run P w = .ok (.value (.slice (some ⟨w.heap.size,0,none⟩) n n)) (w.alloc (.cells cells e)))
  (h : ∀ b w',Hid (Made w w' b (.cells cells e)) → wpList P ops Q rest (a.put o.dst (.slice (some ⟨b,0,none⟩) n n)) w') : wpList P ops Q (o :: rest) a w:=by
 refine wpList_plain hg fun K hK=>?_
 unfold Oper.wp
 rw [hrun,Oper.upon_value]
 exact hK _ _ (h _ _ (made w _))

theorem wpList_boxB (hg : o.guard = none) (t : TypeId) (x : Operand) (ho : o.op = .box t x) (cells : Array Value) (hx : (a.eval x).cells = cells)
  (h : ∀ b w',Hid (Made w w' b (.cells cells t)) → wpList P ops Q rest (a.put o.dst (.pointer (some ⟨b,0,none⟩))) w') : wpList P ops Q (o :: rest) a w :=
 Go.Great.wpList_boxTo hg t x ho o.dst rfl w.heap.size rfl cells hx (h _ _ (made w _))

theorem wpList_allocB (hg : o.guard = none) (t : TypeId) (cells : Array Value) (hrun : (execOp a.eval o).run P w = .ok (.value (.pointer (some ⟨w.heap.size,0,none⟩))) (w.alloc (.cells cells t)))
  (h : ∀ b w',Hid (Made w w' b (.cells cells t)) → wpList P ops Q rest (a.put o.dst (.pointer (some ⟨b,0,none⟩))) w') : wpList P ops Q (o :: rest) a w:=by
 refine wpList_plain hg fun K hK=>?_
 unfold Oper.wp
 rw [hrun,Oper.upon_value]
 exact hK _ _ (h _ _ (made w _))

theorem range_of {b off : Nat} {cs : Array Value} {t : TypeId} (hg : w.heap[b]? = some (.cells cs t (0,0))) (vs : List Value) (hsub : (cs.toList.drop off).take vs.length = vs) : w.rangeAt b off vs:=fun j v hj=>by
 rw [cells_at hg]
 have hj2 : j < vs.length:=(List.getElem?_eq_some_iff.1 hj).1
 rw [← hsub,List.getElem?_take,if_pos hj2,List.getElem?_drop] at hj
 rw [← hj]
 simp

theorem run_loadM {ρ : Operand → Value} (ty : TypeId) (x : Operand) (ho : o.op = .load ty x) (b off : Nat) (hx : ρ x = .pointer (some ⟨b,off,none⟩)) {cs : Array Value} {t : TypeId} (hg : w.heap[b]? = some (.cells cs t (0,0)))
  (vs : List Value) (hsub : (cs.toList.drop off).take vs.length = vs) {fs : Array Field} (hu : P.underlying ty = some (.struct fs)) (hi : (P.info? ty).map (·.size) = some vs.length) :
  (execOp ρ o).run P w = .ok (.value (.agg vs.toArray)) w:=by
 unfold execOp
 simp only [ho,hx,Instr.loadAt,Instr.sureAddr,Sem.run_bind,Sem.run_pure,Result.andThen_ok,run_loadVar_mid w b off ty vs (.struct fs) (range_of hg vs hsub) hu rfl hi]

theorem wpList_loadM (hgd : o.guard = none) (ty : TypeId) (x : Operand) (ho : o.op = .load ty x) (b off : Nat) (hx : a.eval x = .pointer (some ⟨b,off,none⟩)) {cs : Array Value} {t : TypeId} (hg : w.heap[b]? = some (.cells cs t (0,0)))
  (vs : List Value) (hsub : (cs.toList.drop off).take vs.length = vs) {fs : Array Field} (hu : P.underlying ty = some (.struct fs)) (hi : (P.info? ty).map (·.size) = some vs.length)
  (h : ∀ v,Hid (v = .agg vs.toArray) → wpList P ops Q rest (a.put o.dst v) w) : wpList P ops Q (o :: rest) a w:=by
 refine wpList_plain hgd fun K hK=>?_
 unfold Oper.wp
 rw [run_loadM ty x ho b off hx hg vs hsub hu hi,Oper.upon_value]
 exact hK _ _ (h _ rfl)

theorem setCells_putN (b : Nat) : ∀ (vs : List Value) (o : Nat) (w : World),w.setCells b o vs = putN w b o vs
 | [],_,_=>rfl
 | v :: l,o,w=>setCells_putN b l (o + 1) (w.setCell ⟨b,o,none⟩ v)

theorem run_storeM (ty : TypeId) (b off : Nat) (v : Value) (vs : List Value) (hv : v.cells = vs.toArray) {cs : Array Value} {t : TypeId} (hg : w.heap[b]? = some (.cells cs t (0,0))) (hfit : off + vs.length ≤ cs.size)
  (hi : (P.info? ty).map (·.size) = some vs.length) (h1 : ∀ u ∈ vs,u.oneCell' = true) :
  (Instr.storeAt ty (.pointer (some ⟨b,off,none⟩)) v).run P w = .ok () (putN w b off vs):=by
 have:=run_storeCells_cells (P:=P) b off vs 0 w (fun j hj=>by
   rw [Nat.add_zero,cells_at hg,Array.getElem?_eq_getElem (by omega)]; rfl) (fun j hj=>frozen_at hg _) h1
 cases hq : P.info? ty with
 | none=>simp [hq] at hi
 | some i =>
  have hs : vs.length = i.size:=by simp [hq] at hi; omega
  simp only [Nat.add_zero] at this
  rw [← setCells_putN]
  simp only [Instr.storeAt,Instr.sureAddr,Sem.run_bind,Sem.run_pure,Result.andThen_ok]
  simp [storeVar,sizeOf,typeInfo,hq,hv,hs,this]

theorem wpList_storeM (hgd : o.guard = none) (ty : TypeId) (x y : Operand) (ho : o.op = .store ty x y) (b off : Nat) (hx : a.eval x = .pointer (some ⟨b,off,none⟩)) (vs : List Value) (hv : (a.eval y).cells = vs.toArray)
  {cs : Array Value} {t : TypeId} (hg : w.heap[b]? = some (.cells cs t (0,0))) (hfit : off + vs.length ≤ cs.size) (hi : (P.info? ty).map (·.size) = some vs.length) (h1 : ∀ u ∈ vs,u.oneCell' = true)
  (new : Array Value) (hnew : splN cs off vs = new) (h : ∀ w',Hid (Wrote w w' b new t) → wpList P ops Q rest (a.put o.dst undef) w') : wpList P ops Q (o :: rest) a w:=by
 refine wpList_plain hgd fun K hK=>?_
 unfold Oper.wp execOp
 simp only [ho,hx,Sem.run_bind,Sem.run_pure,Result.andThen_ok,run_storeM ty b off (a.eval y) vs hv hg hfit hi h1]
 have hw : Hid (Wrote w (putN w b off vs) b new t):=by
  rw [← hnew]
  exact wrote hg vs
 exact hK _ _ (h _ hw)

theorem wpList_buildB (hg : o.guard = none) (t : TypeId) (parts : Array (Nat × Operand)) (ho : o.op = .build t parts) (cells : Array Value) (hf : P.built t (parts.map fun (i,x)=>(i,a.eval x)).toList = some cells)
  (h : ∀ v,Hid (v = .agg cells) → wpList P ops Q rest (a.put o.dst v) w) : wpList P ops Q (o :: rest) a w:=by
 refine wpList_build hg t parts ho (by rw [hf]; rfl) ?_
 rw [hf]
 exact h _ rfl

/-- A result that lies in a box. -/
theorem run_box {w : World} {b : Nat} {cs : Array Value} {t : TypeId} (ty : TypeId) {fs : Array Field} (hg : w.heap[b]? = some (.cells cs t (0,0))) (hu : P.underlying ty = some (.struct fs)) (hi : (P.info? ty).map (·.size) = some cs.size) :
  (loadVar ty ⟨b,0,none⟩).run P w = .ok (.agg cs) w:=run_loadVar_row w b t ty cs (0,0) (.struct fs) hg hu rfl hi
end
end Go.Mk

namespace Go.Mk
open Go Go.RowKit

theorem zbx {w w' : World} {k : Nat} {x : Obj} (h : Hid (w.heap[k]? = some x)) (e : Ext w w') : Hid (w'.heap[k]? = some x):=blk_ext h.out e
theorem zrx {w w' : World} {A : Nat → Prop} {φ : World → Prop} (h : Hid (Rd A φ w)) (e : Ext w w') : Hid (Rd A φ w'):=h.out.ext e

section
variable {P : Program} {ops : Array Oper} {rest : List Oper} {o : Oper} {a : Act} {w : World} {Q : Exit → Act → World → Prop}
/-- Ahead of which operations a walk stops: whatever writes or makes memory, and loads of great structs. -/
def stops (L : List Nat) : Op → Bool
 | .load ty _=>L.contains ty
 | .store ..=>true
 | .box ..=>true
 | .alloc ..=>true
 | .build ..=>true
 | .buildSlice ..=>true
 | _=>false
def cuts : Op → Bool
 | .slice ..=>true
 | _=>false
theorem zst {L : List Nat} (_ : stops L o.op = true) (h : Hid (wpList P ops Q (o :: rest) a w)) : wpList P ops Q (o :: rest) a w:=h
theorem zsc (_ : cuts o.op = true) (h : Hid (wpList P ops Q (o :: rest) a w)) : wpList P ops Q (o :: rest) a w:=h
/-- s[1:], whatever room there is. -/
theorem wpList_cut (hg : o.guard = none) (n : Nat) (G : Option Addr → Nat → Prop) (h1 : ∃ na nc,G na nc ∧ (execOp a.eval o).run P w = .ok (.value (.slice na n nc)) w) (h : ∀ na nc,G na nc → wpList P ops Q rest (a.put o.dst (.slice na n nc)) w) : wpList P ops Q (o :: rest) a w:=by
 obtain ⟨na,nc,hG,hrun⟩:=h1
 refine wpList_plain hg fun K hK=>?_
 unfold Oper.wp
 rw [hrun,Oper.upon_value]
 exact hK _ _ (h na nc hG)
theorem zcv {v : Value} {cs : List Value} (h : Hid (v = .agg cs.toArray)) : v.cells = cs.toArray:=by rw [h.out]; rfl
/-- A box is loaded whole, and stored whole. -/
theorem wpList_loadW (hgd : o.guard = none) (ty : TypeId) (x : Operand) (ho : o.op = .load ty x) (b : Nat) (hx : a.eval x = .pointer (some ⟨b,0,none⟩)) {cs : List Value} {t : TypeId} (hg : Hid (w.heap[b]? = some (.cells cs.toArray t (0,0))))
  {fs : Array Field} (hu : P.underlying ty = some (.struct fs)) (hi : (P.info? ty).map (·.size) = some cs.length)
  (h : ∀ v,Hid (v = .agg cs.toArray) → wpList P ops Q rest (a.put o.dst v) w) : wpList P ops Q (o :: rest) a w :=
 wpList_loadM hgd ty x ho b 0 hx hg.out cs (by simp) hu hi h
theorem wpList_storeW (hgd : o.guard = none) (ty : TypeId) (x y : Operand) (ho : o.op = .store ty x y) (b : Nat) (hx : a.eval x = .pointer (some ⟨b,0,none⟩)) (vs : List Value) (hv : (a.eval y).cells = vs.toArray)
  {cs : Array Value} {t : TypeId} (hg : Hid (w.heap[b]? = some (.cells cs t (0,0)))) (hfit : vs.length = cs.size) (hi : (P.info? ty).map (·.size) = some vs.length) (h1 : vs.all (fun u=>u.oneCell') = true)
  (h : ∀ w',Hid (Wrote w w' b vs.toArray t) → wpList P ops Q rest (a.put o.dst undef) w') : wpList P ops Q (o :: rest) a w :=
 wpList_storeM hgd ty x y ho b 0 hx vs hv hg.out (by omega) hi (ones_of h1) _ (splN_all cs vs hfit) h
/-- A part of a box. -/
theorem wpList_loadP (hgd : o.guard = none) (ty : TypeId) (x : Operand) (ho : o.op = .load ty x) (b off : Nat) (hx : a.eval x = .pointer (some ⟨b,off,none⟩)) {cs : Array Value} {t : TypeId} (hg : Hid (w.heap[b]? = some (.cells cs t (0,0))))
  (vs : List Value) (hsub : (cs.toList.drop off).take vs.length = vs) {fs : Array Field} (hu : P.underlying ty = some (.struct fs)) (hi : (P.info? ty).map (·.size) = some vs.length)
  (h : ∀ v,Hid (v = .agg vs.toArray) → wpList P ops Q rest (a.put o.dst v) w) : wpList P ops Q (o :: rest) a w :=
 wpList_loadM hgd ty x ho b off hx hg.out vs hsub hu hi h
theorem wpList_storeP (hgd : o.guard = none) (ty : TypeId) (x y : Operand) (ho : o.op = .store ty x y) (b off : Nat) (hx : a.eval x = .pointer (some ⟨b,off,none⟩)) (vs : List Value) (hv : (a.eval y).cells = vs.toArray)
  {cs : Array Value} {t : TypeId} (hg : Hid (w.heap[b]? = some (.cells cs t (0,0)))) (hfit : (off + vs.length).ble cs.size = true) (hi : (P.info? ty).map (·.size) = some vs.length) (h1 : vs.all (fun u=>u.oneCell') = true)
  (new : List Value) (hnew : cs.toList.take off ++ vs ++ cs.toList.drop (off + vs.length) = new) (h : ∀ w',Hid (Wrote w w' b new.toArray t) → wpList P ops Q rest (a.put o.dst undef) w') : wpList P ops Q (o :: rest) a w :=
 wpList_storeM hgd ty x y ho b off hx vs hv hg.out (Nat.le_of_ble_eq_true hfit) hi (ones_of h1) _ ((splN_eq _ _ _ (Nat.le_of_ble_eq_true hfit)).trans (by rw [hnew])) h
end
end Go.Mk

namespace Go.Mk
open Go Go.RowKit

theorem own_ne_lt {g n cap b : Nat} (h : b < g) : (Value.slice (some ⟨g,0,none⟩) n cap).ownBlock ≠ some b:=fun e=>by
 have q : g = b:=by simpa [Value.ownBlock] using e
 omega

theorem own_block {w : World} {base e size n cap g : Nat} {xs : List Value} (h : w.ownsRow base e size (.slice (some ⟨g,0,none⟩) n cap) n xs) : ∃ cur : Array Value,w.heap[g]? = some (.cells cur e (0,0)) ∧ base ≤ g ∧ cur.size = cap * size ∧ cur.toList.take (n * size) = xs ∧ n ≤ cap ∧ cap ≤ maxLen:=by
 rcases h.2 with ⟨e1,_⟩ | ⟨g',cap',cur,e1,hb,hg,hn,hm,hs,ht⟩
 ·cases e1
 ·simp only [Value.slice.injEq,Option.some.injEq,Addr.mk.injEq,and_true,true_and] at e1
  obtain ⟨rfl,rfl⟩:=e1
  exact ⟨cur,hg,hb,hs,ht,hn,hm⟩

theorem own_spliced {w w' : World} {base e size n cap g off : Nat} {xs vs : List Value} {cur : Array Value} (hb : base ≤ g) (hs : cur.size = cap * size) (ht : cur.toList.take (n * size) = xs) (hn : n ≤ cap) (hm : cap ≤ maxLen)
  (hw : Wrote w w' g (splN cur off vs) e) (hf : off + vs.length ≤ n * size) : w'.ownsRow base e size (.slice (some ⟨g,0,none⟩) n cap) n (xs.take off ++ vs ++ xs.drop (off + vs.length)):=by
 have hns : n * size ≤ cap * size:=Nat.mul_le_mul_right _ hn
 have hlen : xs.length = n * size:=by rw [← ht,List.length_take,Array.length_toList,hs]; exact Nat.min_eq_left hns
 have hsp:=splN_eq vs cur off (by omega)
 refine ⟨by simp; omega,.inr ⟨g,cap,_,rfl,hb,hw.block,hn,hm,?_,?_⟩⟩
 ·rw [hsp]; simp; omega
 ·rw [hsp]
  show (cur.toList.take off ++ vs ++ cur.toList.drop (off + vs.length)).take (n * size) = _
  subst ht
  rw [List.append_assoc,List.append_assoc,List.take_append,List.take_append,List.take_take,List.take_take,List.drop_take]
  have h1 : (cur.toList.take off).length = off:=by rw [List.length_take,Array.length_toList]; omega
  rw [h1,Nat.min_eq_right (by omega : off ≤ n * size),Nat.min_eq_left (by omega : off ≤ n * size),List.take_of_length_le (l:=vs) (by omega),show n * size - off - vs.length = n * size - (off + vs.length) by omega]

theorem set_split {X : Type} : ∀ (l : List X) (k : Nat) (c : X),k < l.length → l.set k c = l.take k ++ c :: l.drop (k + 1)
 | [],k,c,h=>by simp at h
 | x :: l,0,c,_=>rfl
 | x :: l,k + 1,c,h=>by
  simp only [List.set_cons_succ,List.take_succ_cons,List.drop_succ_cons,List.cons_append]
  rw [set_split l k c (by simpa using h)]
theorem flatten_set {size : Nat} (hs : 0 < size) {css : List (List Value)} (h : ∀ c ∈ css,c.length = size) {k : Nat} (hk : k < css.length) {c : List Value} (hc : c.length = size) : (css.set k c).flatten = css.flatten.take (k * size) ++ c ++ css.flatten.drop (k * size + c.length):=by
 rw [set_split css k c hk,List.flatten_append,List.flatten_cons,flatten_take hs h,flatten_drop hs h,List.append_assoc,hc,show (k + 1) * size = k * size + size by rw [Nat.add_mul]; omega]

theorem Rd.setE {A : Nat → Prop} {X : Type} {R : El X} {size : Nat} {css : List (List Value)} {xs : List X} {c : List Value} {x : X} {w : World} (h1 : Rd A (fun w=>Each size R w css xs) w) (h2 : Rd A (fun w=>R w c x) w) (hc : c.length = size) (k : Nat) : Rd A (fun w=>Each size R w (css.set k c) (xs.set k x)) w :=
 (h1.and h2).imp fun _ h=>h.1.set k hc h.2

/-- One element of a row, and where it lies. -/
theorem rd_elem {A : Nat → Prop} {X : Type} {R : El X} {size : Nat} {css : List (List Value)} {xs : List X} {w : World} (h : Rd A (fun w=>Each size R w css xs) w) {k : Nat} {c : List Value} {x : X} (hc : css[k]? = some c) (hx : xs[k]? = some x) : Rd A (fun w=>R w c x) w :=
 h.imp fun _ h=>(h.2 k c x hc hx).2
theorem elem_at {X : Type} {R : El X} {size : Nat} {css : List (List Value)} {xs : List X} {w : World} (h : Each size R w css xs) {k : Nat} (hk : k < xs.length) : ∃ c x,css[k]? = some c ∧ xs[k]? = some x ∧ c.length = size:=by
 have h1 : css[k]? = some (css[k]'(by rw [h.1]; exact hk)):=List.getElem?_eq_getElem _
 have h2 : xs[k]? = some xs[k]:=List.getElem?_eq_getElem hk
 exact ⟨_,_,h1,h2,(h.2 k _ _ h1 h2).1⟩
theorem row_cells {w : World} {size : Nat} {b off n cap : Nat} {css : List (List Value)} (hs : 0 < size) (h : Row w size (.slice (some ⟨b,off,none⟩) n cap) n css.flatten) (hz : ∀ c ∈ css,c.length = size) {k : Nat} {c : List Value} (hc : css[k]? = some c) : w.rangeAt b (off + k * size) c:=fun j v hv=>by
 obtain ⟨_,ao,cap',e,_,_,_,h5⟩:=h
 simp only [Value.slice.injEq] at e
 obtain ⟨b',off',e',hcell⟩:=h5 _ _ (flatten_get hs hz hc hv)
 rw [e'] at e
 simp only [Option.some.injEq,Addr.mk.injEq,and_true] at e
 obtain ⟨⟨rfl,rfl⟩,_⟩:=e
 rw [Nat.add_assoc]
 exact hcell

section
variable {P : Program} {ops : Array Oper} {rest : List Oper} {o : Oper} {a : Act} {w : World} {Q : Exit → Act → World → Prop}
/-- A struct out of a row. -/
theorem run_loadR {ρ : Operand → Value} (ty : TypeId) (x : Operand) (ho : o.op = .load ty x) (b off : Nat) (hx : ρ x = .pointer (some ⟨b,off,none⟩)) (vs : List Value) (hr : w.rangeAt b off vs) {fs : Array Field} (hu : P.underlying ty = some (.struct fs)) (hi : (P.info? ty).map (·.size) = some vs.length) :
  (execOp ρ o).run P w = .ok (.value (.agg vs.toArray)) w:=by
 unfold execOp
 simp only [ho,hx,Instr.loadAt,Instr.sureAddr,Sem.run_bind,Sem.run_pure,Result.andThen_ok,run_loadVar_mid w b off ty vs (.struct fs) hr hu rfl hi]
theorem own_made {w w' : World} {b base e size n : Nat} {cells : Array Value} (h : Made w w' b (.cells cells e)) (hb : base ≤ b) (hs : cells.size = n * size) (hm : n ≤ maxLen) : w'.ownsRow base e size (.slice (some ⟨b,0,none⟩) n n) n cells.toList :=
 ⟨by simpa using hs,.inr ⟨b,n,cells,rfl,hb,h.block,Nat.le_refl _,hm,hs,by rw [List.take_of_length_le (by simp [hs])]⟩⟩

theorem wpList_append_full (hgd : o.guard = none) (s x : Operand) (t : TypeId) (ho : o.op = .call { callee:=.builtin .append,args:=#[s,x],argTypes:=#[t,t] })
  (base : Nat) (e : TypeId) (i : TypeInfo) (z : Value) (size bytes : Nat) (ht : P.underlying t = some (.slice e)) (hi : P.info? e = some i) (hz : i.zero = some z)
  (hsize : i.size = size) (hby : i.bytes = bytes) (hzs : z.cells.size = size) (hsz : 0 < size)
  (v : Value) (n : Nat) (xs : List Value) (hs : a.eval s = v) (hown : FullOf base e size n xs v w) (u : Value) (hx : a.eval x = u) (m : Nat) (news : List Value) (hu : Row w size u m news) (h1 : ∀ u ∈ news,u.oneCell' = true)
  (hbytes : (n + m) * bytes ≤ 140737488355328) (hpos : 0 < bytes) (hbase : base ≤ w.heap.size)
  (h : ∀ v' w',w'.ownsRow base e size v' (n + m) (xs ++ news) → Ext w w' → wpList P ops Q rest (a.put o.dst v') w') : wpList P ops Q (o :: rest) a w:=by
 refine wpList_plain hgd fun K hK=>?_
 obtain ⟨v',w',hrun,h2,h3⟩:=run_append_full (P:=P) w base t o.type e i z size bytes ht hi hz hsize hby hzs hsz v n xs hown u m news hu h1 hbytes hpos hbase
 unfold Oper.wp
 simp [execOp,ho,resolve,invoke,builtin,hs,hx,hrun,Result.andThen]
 exact hK _ _ (h v' w' h2 h3)

end
end Go.Mk

namespace Go.Mk
open Go Go.RowKit

section
variable {P : Program} {md : Region.Mode} {ops : Array Oper} {Q : Exit → Act → World → Prop} {S : World → Prop} {fuel : Nat} {listed : Array Bool} {a : Act} {w : World} {o : Oper}

theorem held_norm (h : ∀ K : Act → Prop,(∀ a',wpAnyH P md ops Q S fuel listed a' w → K a') → K a) : wpAnyH P md ops Q S fuel listed a w:=h _ (fun _ h=>h)

/-- It is taken first. -/
theorem held_take (i : Nat) (hi : ops[i]? = some o) (hs : Region.noSelect ops = true) (hf : Region.free md ops listed i = true) (hr : (Region.ready md ops listed).contains i = true)
  (hQ : ∀ v c a w,Q (.panic c) (a.put o.dst v) w → Q (.panic c) a w) (v : Value) (hw : Region.wanted o (yielded ops a.tmps) = true) (hv : ∀ w,S w → (execOp a.eval o).run P w = .ok (.value v) w) (hS : S w)
  (h : wpAnyH P md ops Q S fuel (listed.setIfInBounds i true) (a.put o.dst v) w) : wpAnyH P md ops Q S (fuel + 1) listed a w :=
 wpAnyH_take hi hs hf hr (hQ v) (.inl ⟨hw,hv⟩) hS h
/-- The same for what only computes: its value is found by the walk. -/
theorem held_pure (i : Nat) (hi : ops[i]? = some o) (hs : Region.noSelect ops = true) (hf : Region.free md ops listed i = true) (hr : (Region.ready md ops listed).contains i = true)
  (hQ : ∀ v c a w,Q (.panic c) (a.put o.dst v) w → Q (.panic c) a w) (hw : Region.wanted o (yielded ops a.tmps) = true) (hS : S w)
  (h : ∀ K : Act → Prop,(∀ a',wpAnyH P md ops Q S fuel (listed.setIfInBounds i true) a' w → K a') → ∃ c,(∀ w,(execOp a.eval o).run P w = .ok (.value c) w) ∧ K (a.put o.dst c)) : wpAnyH P md ops Q S (fuel + 1) listed a w:=by
 obtain ⟨c,hc,hk⟩:=h _ (fun _ h=>h)
 exact wpAnyH_take hi hs hf hr (hQ c) (.inl ⟨hw,fun w _=>hc w⟩) hS hk

theorem held_one {K : Act → World → Prop} {i : Nat} (hi : ops[i]? = some o) (hw : Region.wanted o (yielded ops a.tmps) = true) (h : o.wp P a w K Q) : wpOp P ops Q i K a w:=by
 unfold wpOp
 simp only [hi,hw,if_true]
 exact .inl h
theorem held_all (i : Nat) (hr : Region.ready md ops listed = [i]) (h : wpOp P ops Q i (fun a' w'=>S w' ∧ wpAnyH P md ops Q S fuel (listed.setIfInBounds i true) a' w') a w) : wpAnyH P md ops Q S (fuel + 1) listed a w :=
 wpAnyH_all hr (by simp) (fun j hj=>by
  simp only [List.mem_singleton] at hj
  subst hj
  exact h)
theorem held_store (i : Nat) (hr : Region.ready md ops listed = [i]) (hi : ops[i]? = some o) (hw : Region.wanted o (yielded ops a.tmps) = true)
  (ty : TypeId) (x y : Operand) (ho : o.op = .store ty x y) (b off : Nat) (hx : a.eval x = .pointer (some ⟨b,off,none⟩)) (vs : List Value) (hv : (a.eval y).cells = vs.toArray)
  {cs : Array Value} {t : TypeId} (hg : w.heap[b]? = some (.cells cs t (0,0))) (hfit : off + vs.length ≤ cs.size) (hsz : (P.info? ty).map (·.size) = some vs.length) (h1 : ∀ u ∈ vs,u.oneCell' = true)
  (new : Array Value) (hnew : splN cs off vs = new) (h : ∀ w',Hid (Wrote w w' b new t) → S w' ∧ wpAnyH P md ops Q S fuel (listed.setIfInBounds i true) (a.put o.dst undef) w') : wpAnyH P md ops Q S (fuel + 1) listed a w:=by
 refine held_all i hr (held_one hi hw ?_)
 unfold Oper.wp execOp
 simp only [ho,hx,Sem.run_bind,Sem.run_pure,Result.andThen_ok,run_storeM ty b off (a.eval y) vs hv hg hfit hsz h1]
 have hw : Hid (Wrote w (putN w b off vs) b new t):=by
  rw [← hnew]
  exact wrote hg vs
 exact h _ hw
theorem held_loadW (i : Nat) (hi : ops[i]? = some o) (hs : Region.noSelect ops = true) (hf : Region.free md ops listed i = true) (hr : (Region.ready md ops listed).contains i = true)
  (hQ : ∀ v c a w,Q (.panic c) (a.put o.dst v) w → Q (.panic c) a w) (hw : Region.wanted o (yielded ops a.tmps) = true) (ty : TypeId) (x : Operand) (ho : o.op = .load ty x) (b : Nat) (hx : a.eval x = .pointer (some ⟨b,0,none⟩)) {cs : List Value} {t : TypeId}
  (hg : ∀ w,S w → w.heap[b]? = some (.cells cs.toArray t (0,0))) {fs : Array Field} (hu : P.underlying ty = some (.struct fs)) (hz : (P.info? ty).map (·.size) = some cs.length) (hS : Hid (S w))
  (h : wpAnyH P md ops Q S fuel (listed.setIfInBounds i true) (a.put o.dst (.agg cs.toArray)) w) : wpAnyH P md ops Q S (fuel + 1) listed a w :=
 held_take i hi hs hf hr hQ _ hw (fun w hw=>run_loadM ty x ho b 0 hx (hg w hw) cs (by simp) hu hz) hS.out h
theorem held_storeW (i : Nat) (hr : Region.ready md ops listed = [i]) (hi : ops[i]? = some o) (hw : Region.wanted o (yielded ops a.tmps) = true)
  (ty : TypeId) (x y : Operand) (ho : o.op = .store ty x y) (b : Nat) (hx : a.eval x = .pointer (some ⟨b,0,none⟩)) (vs : List Value) (hv : (a.eval y).cells = vs.toArray)
  {cs : Array Value} {t : TypeId} (hg : Hid (w.heap[b]? = some (.cells cs t (0,0)))) (hfit : vs.length = cs.size) (hsz : (P.info? ty).map (·.size) = some vs.length) (h1 : vs.all (fun u=>u.oneCell') = true)
  (h : ∀ w',Hid (Wrote w w' b vs.toArray t) → S w' ∧ wpAnyH P md ops Q S fuel (listed.setIfInBounds i true) (a.put o.dst undef) w') : wpAnyH P md ops Q S (fuel + 1) listed a w :=
 held_store i hr hi hw ty x y ho b 0 hx vs hv hg.out (by omega) hsz (ones_of h1) _ (splN_all cs vs hfit) h
theorem held_value (i : Nat) (hr : Region.ready md ops listed = [i]) (hi : ops[i]? = some o) (hw : Region.wanted o (yielded ops a.tmps) = true) (v : Value) (hv : (execOp a.eval o).run P w = .ok (.value v) w)
  (hS : S w) (h : wpAnyH P md ops Q S fuel (listed.setIfInBounds i true) (a.put o.dst v) w) : wpAnyH P md ops Q S (fuel + 1) listed a w:=by
 refine held_all i hr (held_one hi hw ?_)
 unfold Oper.wp
 rw [hv]
 exact ⟨hS,h⟩
theorem held_call (i : Nat) (hr : Region.ready md ops listed = [i]) (hi : ops[i]? = some o) (hw : Region.wanted o (yielded ops a.tmps) = true) (f : FuncId) (args : Array Value) (hv : (execOp a.eval o).run P w = .ok (.enter f args) w)
  (h : Calls P f args w fun e w'=>∃ v,e = .returned v ∧ S w' ∧ wpAnyH P md ops Q S fuel (listed.setIfInBounds i true) (a.put o.dst v) w') : wpAnyH P md ops Q S (fuel + 1) listed a w:=by
 refine held_all i hr (held_one hi hw ?_)
 unfold Oper.wp
 rw [hv]
 refine Calls.mono h fun e w' ⟨v,e1,h1,h2⟩=>?_
 subst e1
 exact ⟨h1,h2⟩
theorem wpOp_alloc {K : Act → World → Prop} {i : Nat} (hi : ops[i]? = some o) (hw : Region.wanted o (yielded ops a.tmps) = true) (t : TypeId) (cells : Array Value) (hrun : (execOp a.eval o).run P w = .ok (.value (.pointer (some ⟨w.heap.size,0,none⟩))) (w.alloc (.cells cells t)))
  (h : ∀ b w',Hid (Made w w' b (.cells cells t)) → K (a.put o.dst (.pointer (some ⟨b,0,none⟩))) w') : wpOp P ops Q i K a w:=by
 refine held_one hi hw ?_
 unfold Oper.wp
 rw [hrun]
 exact h _ _ (made w _)
theorem wpOp_call {K : Act → World → Prop} {i : Nat} (hi : ops[i]? = some o) (hw : Region.wanted o (yielded ops a.tmps) = true) (f : FuncId) (args : Array Value) (hv : (execOp a.eval o).run P w = .ok (.enter f args) w)
  (h : Calls P f args w fun e w'=>∃ v,e = .returned v ∧ K (a.put o.dst v) w') : wpOp P ops Q i K a w:=by
 refine held_one hi hw ?_
 unfold Oper.wp
 rw [hv]
 refine Calls.mono h fun e w' ⟨v,e1,h1⟩=>?_
 subst e1
 exact h1
theorem held_two (i j : Nat) (hr : Region.ready md ops listed = [i,j]) (h1 : wpOp P ops Q i (fun a' w'=>S w' ∧ wpAnyH P md ops Q S fuel (listed.setIfInBounds i true) a' w') a w)
  (h2 : wpOp P ops Q j (fun a' w'=>S w' ∧ wpAnyH P md ops Q S fuel (listed.setIfInBounds j true) a' w') a w) : wpAnyH P md ops Q S (fuel + 1) listed a w :=
 wpAnyH_all hr (by simp) (fun k hk=>by
  simp only [List.mem_cons,List.not_mem_nil,or_false] at hk
  rcases hk with rfl | rfl
  ·exact h1
  ·exact h2)
theorem held_drew {id : Nat} (hm : P.follows .mixedOrders = true) (h : ∀ w',Ext w w' → w'.heap = w.heap → wpAnyH P .any ops Q S ops.size (Array.replicate ops.size false) a w') : (Code.region id ops true).wp P Q a w :=
 wp_region_held hm (h _ ((Ext.refl w).drew) rfl)
end
end Go.Mk

namespace Go.Mk
open Go Go.RowKit

def zeroCl : Cl:=⟨0,0,0,0⟩
/-- The t-th request of client i. -/
def reqOf (l : List (List Cl)) (i t : Nat) : Rq:=⟨i,t,(l.getD i []).getD t zeroCl⟩
def mine (p : List Rq) (i : Nat) : List Rq:=p.filter fun r=>decide (r.client = (i : Int))
def names (p : List Rq) : List (Int × Int):=(allCl (p.map Rq.call)).1
def told (p : List Rq) (i : Nat) : List Rp:=((p.zip (allCl (p.map Rq.call)).2).filter fun x=>decide (x.1.client = (i : Int))).map fun x=>⟨x.2.1,x.2.2⟩

theorem all_len (cs : List Cl) : (allCl cs).2.length = cs.length:=by
 have key : ∀ (cs : List Cl) (s : List (Int × Int) × List (Int × Int)),(cs.foldl stepCl s).2.length = s.2.length + cs.length:=by
  intro cs
  induction cs with
  | nil=>intro s; rfl
  | cons c cs ih=>intro s; rw [List.foldl_cons,ih]; simp [stepCl]; omega
 have:=key cs ([],[])
 simpa [allCl] using this
theorem names_snoc (p : List Rq) (r : Rq) : names (p ++ [r]) = (doCl (names p) r.call).1:=by
 unfold names
 rw [List.map_append,List.map_cons,List.map_nil,allCl_snoc]
 rfl
theorem mine_snoc (p : List Rq) (r : Rq) (i : Nat) : mine (p ++ [r]) i = if r.client = (i : Int) then mine p i ++ [r] else mine p i:=by
 unfold mine
 rw [List.filter_append]
 by_cases h : r.client = (i : Int)
 ·rw [if_pos h]; simp [h]
 ·rw [if_neg h]; simp [h]
theorem told_snoc (p : List Rq) (r : Rq) (i : Nat) : told (p ++ [r]) i = if r.client = (i : Int) then told p i ++ [(doCl (names p) r.call).2] else told p i:=by
 unfold told names
 rw [List.map_append,List.map_cons,List.map_nil,allCl_snoc]
 simp only [stepCl]
 rw [List.zip_append (by rw [all_len,List.length_map])]
 simp only [List.zip_cons_cons,List.zip_nil_right,List.filter_append]
 by_cases h : r.client = (i : Int)
 ·rw [if_pos h]; simp [h]
 ·rw [if_neg h]; simp [h]
theorem told_len (p : List Rq) (i : Nat) : (told p i).length = (mine p i).length:=by
 have key : ∀ (q : List Rq) (y : List (Int × Int)),q.length = y.length → (((q.zip y).filter fun x=>decide (x.1.client = (i : Int))).map fun x=>(⟨x.2.1,x.2.2⟩ : Rp)).length = (q.filter fun r=>decide (r.client = (i : Int))).length:=by
  intro q
  induction q with
  | nil=>intro y _; simp
  | cons r q ih =>
   intro y hy
   cases y with
   | nil=>simp at hy
   | cons a y =>
    have:=ih y (by simpa using hy)
    by_cases h : r.client = (i : Int)
    ·simp [h] at this ⊢; exact this
    ·simp [h] at this ⊢; exact this
 exact key p _ (by rw [all_len,List.length_map])

theorem getD_mem {X : Type} {xs : List X} {t : Nat} {d : X} (h : t < xs.length) : xs.getD t d ∈ xs:=by
 rw [List.getD_eq_getElem?_getD,List.getElem?_eq_getElem h]
 exact List.getElem_mem h
/-- Requests of a machine are right ones. -/
theorem right_req {l : List (List Cl)} (hl : rightL l) {i t : Nat} (hi : i < l.length) (ht : t < (l.getD i []).length) : wrongRq (reqOf l i t) = 0:=by
 have hg : l.getD i [] = l[i]:=by simp [hi]
 have h8:=hl.2 (l.getD i []) (by rw [hg]; exact List.getElem_mem hi)
 have h3:=hl.1
 have hw : wrongCl ((l.getD i []).getD t zeroCl) = 0:=h8.2 _ (getD_mem ht)
 unfold wrongRq reqOf
 rw [if_neg (by simp only []; omega)]
 exact hw
theorem right_call {l : List (List Cl)} (hl : rightL l) {i t : Nat} (hi : i < l.length) (ht : t < (l.getD i []).length) : wrongCl (reqOf l i t).call = 0:=(wrongRq_parts (right_req hl hi ht)).2

/-- What is told is a right reply. -/
def okRp (r : Rp) : Prop:=0 ≤ r.err ∧ r.err ≤ 12 ∧ -1073741824 ≤ r.n ∧ r.n ≤ 1073741824 ∧ (0 < r.err → r.n = 0)
theorem okRp_do {l : List (Int × Int)} {c : Cl} (h : Okn l) (hc : wrongCl c = 0) : okRp (doCl l c).2:=by
 obtain ⟨_,h2,h3,h4⟩:=okn_do h hc
 have he : (doCl l c).2.err = 0 ∨ (doCl l c).2.err = 3 ∨ (doCl l c).2.err = 6 ∨ (doCl l c).2.err = 9:=by
  unfold doCl
  repeat' split
  all_goals simp
 refine ⟨by omega,by omega,h3,h4,fun h0=>?_⟩
 rcases h2 with h2 | h2
 ·omega
 ·exact h2.1

/-- All that was done was right. -/
def PastOk (l : List (List Cl)) (p : List Rq) : Prop:=∀ r ∈ p,∃ i t : Nat,i < l.length ∧ t < (l.getD i []).length ∧ r = reqOf l i t
theorem past_names {l : List (List Cl)} (hl : rightL l) {p : List Rq} (hp : PastOk l p) : Okn (names p):=by
 have:=(all_ok (cs:=p.map Rq.call) (fun c hc=>by
  obtain ⟨r,hr,rfl⟩:=List.mem_map.1 hc
  obtain ⟨i,t,hi,ht,rfl⟩:=hp r hr
  exact right_call hl hi ht) p.length).1
 rwa [List.take_of_length_le (by simp)] at this
theorem okRp_told {l : List (List Cl)} (hl : rightL l) {p : List Rq} (hp : PastOk l p) (i : Nat) : ∀ r ∈ told p i,okRp r:=by
 have key : ∀ n,n ≤ p.length → ∀ r ∈ told (p.take n) i,okRp r:=by
  intro n
  induction n with
  | zero=>intro _ r hr; simp [told] at hr
  | succ n ih =>
   intro hn r hr
   have hlt : n < p.length:=by omega
   rw [List.take_add_one,List.getElem?_eq_getElem hlt] at hr
   simp only [Option.toList_some] at hr
   rw [told_snoc] at hr
   split at hr
   ·rw [List.mem_append] at hr
    rcases hr with hr | hr
    ·exact ih (by omega) r hr
    ·simp only [List.mem_singleton] at hr
     subst hr
     obtain ⟨j,t,hj,ht,he⟩:=hp p[n] (List.getElem_mem hlt)
     refine okRp_do (past_names hl (p:=p.take n) fun q hq=>hp q (List.mem_of_mem_take hq)) ?_
     rw [he]
     exact right_call hl hj ht
   ·exact ih (by omega) r hr
 have:=key p.length (Nat.le_refl _)
 rwa [List.take_length] at this
theorem right_ans {l : List (List Cl)} (hl : rightL l) {p : List Rq} (hp : PastOk l p) {i t : Nat} (hi : i < l.length) (ht : t < 8) (hd : t < (told p i).length) : wrongAn ⟨i,t,(told p i).getD t ⟨0,0⟩⟩ = 0:=by
 have hm : (told p i).getD t ⟨0,0⟩ ∈ told p i:=by
  rw [List.getD_eq_getElem?_getD,List.getElem?_eq_getElem hd]; exact List.getElem_mem hd
 obtain ⟨h1,h2,h3,h4,h5⟩:=okRp_told hl hp i _ hm
 have:=hl.1
 unfold wrongAn
 rw [if_neg]
 simp only []
 omega
end Go.Mk

namespace Go.Mk
open Go Go.RowKit

/-- How many replies client k has heard. -/
def gotOf (cl : List Cn) (k : Nat) : Nat:=(cl.getD k (newCn [])).got.length

/-- Where a client stands: it rests; its request waits in the server's box (ks), or is worked at (bz); its answer is in its own box; or what it sent is lost. -/
inductive Phase (l : List (List Cl)) (p : List Rq) (gen : Int) (up : Bool) (ks : List Nat) (bz : Option Nat) (i : Nat) (c : Cn) : Prop
 | rest : i ∉ ks → bz ≠ some i → c.sent = false → c.box = [] → (mine p i).length = c.got.length → Phase l p gen up ks bz i c
 | wait : i ∈ ks → bz ≠ some i → c.sent = true → c.gen = gen → c.box = [] → c.got.length < (l.getD i []).length → Phase l p gen up ks bz i c
 | work : i ∉ ks → bz = some i → c.sent = true → c.gen = gen → c.box = [] → c.got.length < (l.getD i []).length → (mine p i).length = c.got.length → Phase l p gen up ks bz i c
 | hear : i ∉ ks → bz ≠ some i → c.sent = true → (mine p i).length = c.got.length + 1 → c.box = [ansB ⟨i,c.got.length,(told p i).getD c.got.length ⟨0,0⟩⟩] → Phase l p gen up ks bz i c
 | lost : i ∉ ks → bz ≠ some i → c.sent = true → c.box = [] → c.got.length < (l.getD i []).length → (up = true → c.gen ≠ gen) → Phase l p gen up ks bz i c

structure CInv (l : List (List Cl)) (p : List Rq) (an : List An) (gen : Int) (up : Bool) (ks : List Nat) (bz : Option Nat) (i : Nat) (c : Cn) : Prop where
 calls : c.calls = l.getD i []
 at_ : c.at_ = (c.got.length : Int)
 done : mine p i = (List.range (mine p i).length).map (reqOf l i)
 most : (mine p i).length ≤ (l.getD i []).length
 got : c.got = (told p i).take c.got.length
 step : (mine p i).length = c.got.length ∨ (mine p i).length = c.got.length + 1
 last : lastAn an i = if (mine p i).length = 0 then (zeroAn,false) else (⟨i,((mine p i).length - 1 : Nat),(told p i).getD ((mine p i).length - 1) ⟨0,0⟩⟩,true)
 hgen : c.gen ≤ gen
 phase : Phase l p gen up ks bz i c

structure MInv (l : List (List Cl)) (m : Mc) (ks : List Nat) (bz : Option Nat) : Prop where
 nc : m.clients.length = l.length
 nodup : ks.Nodup
 ksl : ∀ k ∈ ks,k < l.length
 box : m.server.box = ks.map fun k=>reqB (reqOf l k (gotOf m.clients k))
 busy : m.server.busy = bz.isSome
 idle : bz = none → m.server = idleSv m.server.gen m.server.box
 work : ∀ i,bz = some i → i < l.length ∧ m.server.now = reqOf l i (gotOf m.clients i) ∧ m.server.says = (doCl (names m.store.past) m.server.now.call).2 ∧
  setAll m.store.cells m.server.plan = setAll (setAll m.store.cells m.store.undo) (planCl (names m.store.past) m.server.now.call) ∧ m.server.plan.length ≤ 3
 down : m.up = false → ks = [] ∧ bz = none ∧ 1 ≤ m.pause ∧ m.pause ≤ 3
 upp : m.up = true → m.pause = 0
 clean : m.up = true → bz = none → m.store.undo = []
 cells : m.store.cells.length = 11
 right : wrongOf (setAll m.store.cells m.store.undo) = 0
 nm : namesOf (setAll m.store.cells m.store.undo) = names m.store.past
 undo : ∀ q ∈ m.store.undo,0 ≤ q.1 ∧ q.1 ≤ 10
 past : PastOk l m.store.past
 falls : 0 ≤ m.falls ∧ m.falls ≤ 6
 gens : 0 ≤ m.server.gen ∧ (m.up = true → m.server.gen = m.falls) ∧ (m.up = false → m.server.gen + 1 = m.falls)
 clients : ∀ i c,m.clients[i]? = some c → CInv l m.store.past m.store.answers m.server.gen m.up ks bz i c

theorem inv_new (l : List (List Cl)) : MInv l (newMc l) [] none where
 nc:=by simp [newMc]
 nodup:=List.nodup_nil
 ksl:=fun k hk=>by cases hk
 box:=rfl
 busy:=rfl
 idle:=fun _=>rfl
 work:=fun i hi=>by cases hi
 down:=fun h=>by cases h
 upp:=fun _=>rfl
 clean:=fun _ _=>rfl
 cells:=rfl
 right:=by show wrongOf (setAll (List.replicate 11 0) []) = 0; decide
 nm:=by show namesOf (setAll (List.replicate 11 0) []) = []; decide
 undo:=fun q hq=>by cases hq
 past:=fun r hr=>by cases hr
 falls:=⟨Int.le_refl _,by show (0 : Int) ≤ 6; decide⟩
 gens:=⟨Int.le_refl _,fun _=>rfl,fun h=>by cases h⟩
 clients:=fun i c hc=>by
  have hc' : (l.map newCn)[i]? = some c:=hc
  rw [List.getElem?_map] at hc'
  cases hg : l[i]? with
  | none=>rw [hg] at hc'; cases hc'
  | some cs =>
   rw [hg] at hc'
   simp at hc'
   subst hc'
   have hd : l.getD i [] = cs:=by simp [hg]
   exact ⟨hd.symm,rfl,rfl,Nat.zero_le _,rfl,.inl rfl,rfl,Int.le_refl _,.rest (by simp) (by simp) rfl rfl rfl⟩

/-- A client that a step does not touch. -/
theorem Phase.other {l : List (List Cl)} {p p' : List Rq} {gen : Int} {up : Bool} {ks ks' : List Nat} {bz bz' : Option Nat} {i : Nat} {c : Cn} (h : Phase l p gen up ks bz i c)
  (hm : mine p' i = mine p i) (ht : told p' i = told p i) (hk : i ∈ ks' ↔ i ∈ ks) (hb : bz' = some i ↔ bz = some i) : Phase l p' gen up ks' bz' i c:=by
 cases h with
 | rest a b d e f=>exact .rest (fun x=>a (hk.1 x)) (fun x=>b (hb.1 x)) d e (by rw [hm]; exact f)
 | wait a b d e f g=>exact .wait (hk.2 a) (fun x=>b (hb.1 x)) d e f g
 | work a b d e f g k=>exact .work (fun x=>a (hk.1 x)) (hb.2 b) d e f g (by rw [hm]; exact k)
 | hear a b d e f=>exact .hear (fun x=>a (hk.1 x)) (fun x=>b (hb.1 x)) d (by rw [hm]; exact e) (by rw [ht]; exact f)
 | lost a b d e f g=>exact .lost (fun x=>a (hk.1 x)) (fun x=>b (hb.1 x)) d e f g
theorem CInv.other {l : List (List Cl)} {p p' : List Rq} {an an' : List An} {gen : Int} {up : Bool} {ks ks' : List Nat} {bz bz' : Option Nat} {i : Nat} {c : Cn} (h : CInv l p an gen up ks bz i c)
  (hm : mine p' i = mine p i) (ht : told p' i = told p i) (ha : lastAn an' i = lastAn an i) (hk : i ∈ ks' ↔ i ∈ ks) (hb : bz' = some i ↔ bz = some i) : CInv l p' an' gen up ks' bz' i c :=
 ⟨h.calls,h.at_,by rw [hm]; exact h.done,by rw [hm]; exact h.most,by rw [ht]; exact h.got,by rw [hm]; exact h.step,by rw [hm,ht,ha]; exact h.last,h.hgen,h.phase.other hm ht hk hb⟩

theorem pause_in (f : Int) : 1 ≤ pauseOf f ∧ pauseOf f ≤ 3:=by
 unfold pauseOf
 repeat' split
 all_goals omega

theorem inv_fall {l : List (List Cl)} {m : Mc} {ks : List Nat} {bz : Option Nat} (h : MInv l m ks bz) : ∃ ks' bz',MInv l (fallM m).1 ks' bz':=by
 unfold fallM
 by_cases hu : m.up = true
 case neg=>rw [if_pos hu]; exact ⟨ks,bz,h⟩
 rw [if_neg (by simpa using hu)]
 by_cases hf : 6 ≤ m.falls
 ·rw [if_pos hf]; exact ⟨ks,bz,h⟩
 rw [if_neg hf]
 refine ⟨[],none,?_⟩
 have hp:=pause_in (m.falls + 1)
 have hfl:=h.falls
 have hge:=h.gens
 exact {
  nc:=h.nc
  nodup:=List.nodup_nil
  ksl:=fun k hk=>by cases hk
  box:=rfl
  busy:=rfl
  idle:=fun _=>rfl
  work:=fun i hi=>by cases hi
  down:=fun _=>⟨rfl,rfl,hp.1,hp.2⟩
  upp:=fun h=>by cases h
  clean:=fun h=>by cases h
  cells:=h.cells
  right:=h.right
  nm:=h.nm
  undo:=h.undo
  past:=h.past
  falls:=by show 0 ≤ m.falls + 1 ∧ m.falls + 1 ≤ 6; omega
  gens:=⟨hge.1,(fun h=>by cases h),fun _=>by show m.server.gen + 1 = m.falls + 1; rw [hge.2.1 hu]⟩
  clients:=fun i c hc=>by
   have hi:=h.clients i c hc
   refine ⟨hi.calls,hi.at_,hi.done,hi.most,hi.got,hi.step,hi.last,hi.hgen,?_⟩
   cases hi.phase with
   | rest a b d e f=>exact .rest (by simp) (by simp) d e f
   | wait a b d e f g=>exact .lost (by simp) (by simp) d f g (fun h=>by cases h)
   | work a b d e f g k=>exact .lost (by simp) (by simp) d f g (fun h=>by cases h)
   | hear a b d e f=>exact .hear (by simp) (by simp) d e f
   | lost a b d e f g=>exact .lost (by simp) (by simp) d e f (fun h=>by cases h) }

theorem inv_tick {l : List (List Cl)} {m : Mc} {ks : List Nat} {bz : Option Nat} (h : MInv l m ks bz) : ∃ ks' bz',MInv l (tickM m) ks' bz':=by
 unfold tickM
 by_cases hu : m.up = true
 ·rw [if_pos hu]; exact ⟨ks,bz,h⟩
 rw [if_neg hu]
 have hu' : m.up = false:=by simpa using hu
 obtain ⟨rfl,rfl,hp1,hp2⟩:=h.down hu'
 by_cases hp : 1 < m.pause
 ·rw [if_pos hp]
  exact ⟨[],none,{ h with down:=fun _=>⟨rfl,rfl,by show 1 ≤ m.pause - 1; omega,by show m.pause - 1 ≤ 3; omega⟩,upp:=fun h=>absurd h hu,clean:=fun h=>absurd h hu }⟩
 rw [if_neg hp]
 refine ⟨[],none,?_⟩
 have hfl:=h.falls
 have hge:=h.gens
 exact {
  nc:=h.nc
  nodup:=List.nodup_nil
  ksl:=fun k hk=>by cases hk
  box:=rfl
  busy:=rfl
  idle:=fun _=>rfl
  work:=fun i hi=>by cases hi
  down:=fun h=>by cases h
  upp:=fun _=>rfl
  clean:=fun _ _=>rfl
  cells:=by show (setAll m.store.cells m.store.undo).length = 11; rw [length_setAll]; exact h.cells
  right:=h.right
  nm:=h.nm
  undo:=fun q hq=>by cases hq
  past:=h.past
  falls:=h.falls
  gens:=⟨by show 0 ≤ m.server.gen + 1; omega,fun _=>hge.2.2 hu',fun h=>by cases h⟩
  clients:=fun i c hc=>by
   have hi:=h.clients i c hc
   have hgn:=hi.hgen
   refine ⟨hi.calls,hi.at_,hi.done,hi.most,hi.got,hi.step,hi.last,by show c.gen ≤ m.server.gen + 1; omega,?_⟩
   cases hi.phase with
   | rest a b d e f=>exact .rest (by simp) (by simp) d e f
   | wait a b d e f g=>cases a
   | work a b d e f g k=>cases b
   | hear a b d e f=>exact .hear (by simp) (by simp) d e f
   | lost a b d e f g=>exact .lost (by simp) (by simp) d e f (fun _=>by show c.gen ≠ m.server.gen + 1; omega) }
end Go.Mk

namespace Go.Mk
open Go Go.RowKit

theorem gotOf_ne {cl : List Cn} {i k : Nat} {c : Cn} (h : k ≠ i) : gotOf (cl.set i c) k = gotOf cl k:=by
 unfold gotOf
 rw [List.getD_eq_getElem?_getD,List.getD_eq_getElem?_getD,List.getElem?_set_ne (fun e=>h e.symm)]
theorem gotOf_at {cl : List Cn} {i : Nat} {c : Cn} (h : cl[i]? = some c) : gotOf cl i = c.got.length:=by
 unfold gotOf
 rw [List.getD_eq_getElem?_getD,h]
 rfl
theorem set_at {X : Type} {cl : List X} {i k : Nat} {c c' d : X} (hc : cl[i]? = some c) (h : (cl.set i c')[k]? = some d) : k = i ∧ d = c' ∨ k ≠ i ∧ cl[k]? = some d:=by
 by_cases e : k = i
 ·subst e
  have hl : k < cl.length:=(List.getElem?_eq_some_iff.1 hc).1
  rw [List.getElem?_set_self hl] at h
  exact .inl ⟨rfl,(Option.some.inj h).symm⟩
 ·rw [List.getElem?_set_ne (fun x=>e x.symm)] at h
  exact .inr ⟨e,h⟩
theorem gotOf_same {cl : List Cn} {i : Nat} {c c' : Cn} (hc : cl[i]? = some c) (hg : c'.got.length = c.got.length) (k : Nat) : gotOf (cl.set i c') k = gotOf cl k:=by
 by_cases e : k = i
 ·subst e
  have hl : k < cl.length:=(List.getElem?_eq_some_iff.1 hc).1
  rw [gotOf_at (c:=c') (List.getElem?_set_self hl),gotOf_at hc,hg]
 ·exact gotOf_ne e

theorem goCn_hear {c : Cn} {me gen : Int} {up : Bool} {a : An} (hb : c.box = [ansB a]) (hw : wrongAn a = 0) (h1 : a.client = me) (h2 : a.token = c.at_) (h3 : c.sent = true) :
  goCn c me gen up = (⟨c.calls,c.at_ + 1,false,c.gen,[],c.got ++ [a.reply]⟩,[],0):=by
 unfold goCn
 rw [hb]
 simp only [readAn_ans hw]
 rw [if_pos (by exact ⟨trivial,h1,h2,h3⟩)]
theorem goCn_none {c : Cn} {me gen : Int} {up : Bool} (hb : c.box = []) : goCn c me gen up = if (c.calls.length : Int) ≤ c.at_ then (c,[],11) else if ¬ up then (c,[],10) else if c.sent ∧ c.gen = gen then (c,[],12) else (⟨c.calls,c.at_,true,gen,[],c.got⟩,reqB ⟨me,c.at_,c.calls.getD c.at_.toNat ⟨0,0,0,0⟩⟩,0):=by
 unfold goCn
 rw [hb]

theorem take_one {X : Type} {xs : List X} {n : Nat} {d : X} (h : n < xs.length) : xs.take (n + 1) = xs.take n ++ [xs.getD n d]:=by
 rw [List.take_add_one,List.getD_eq_getElem?_getD,List.getElem?_eq_getElem h]
 rfl

theorem nodup_le : ∀ {n : Nat} {ks : List Nat},ks.Nodup → (∀ k ∈ ks,k < n) → ks.length ≤ n
 | 0,ks,_,h=>by
  cases ks with
  | nil=>exact Nat.le_refl _
  | cons k ks=>exact absurd (h k (by simp)) (by omega)
 | n + 1,ks,hd,h=>by
  have h1:=nodup_le (n:=n) (ks:=ks.erase n) (hd.erase n) (fun k hk=>by
   have h2:=h k (List.mem_of_mem_erase hk)
   have h3 : k ≠ n:=fun e=>by subst e; exact absurd hk (hd.not_mem_erase)
   omega)
  by_cases hm : n ∈ ks
  ·have:=List.length_erase_of_mem hm
   omega
  ·rw [List.erase_of_not_mem hm] at h1
   omega

theorem inv_client {l : List (List Cl)} (hl : rightL l) {m : Mc} {ks : List Nat} {bz : Option Nat} (h : MInv l m ks bz) (n : Int) : ∃ ks' bz',MInv l (doM m 1 n).1 ks' bz':=by
 unfold doM
 rw [if_pos rfl]
 by_cases hn : n < 0 ∨ (m.clients.length : Int) ≤ n
 ·rw [if_pos hn]; exact ⟨ks,bz,h⟩
 rw [if_neg hn]
 obtain ⟨i,rfl⟩ : ∃ i : Nat,n = (i : Int):=⟨n.toNat,by omega⟩
 simp only [Int.toNat_natCast]
 have hi : i < m.clients.length:=by omega
 have hil : i < l.length:=by rw [← h.nc]; exact hi
 obtain ⟨c,hc⟩ : ∃ c,m.clients[i]? = some c:=⟨_,List.getElem?_eq_getElem hi⟩
 have hgd : m.clients.getD i (newCn []) = c:=by rw [List.getD_eq_getElem?_getD,hc]; rfl
 rw [hgd]
 have ci:=h.clients i c hc
 have h8 : (l.getD i []).length ≤ 8:=(hl.2 _ (getD_mem hil)).1
 generalize hG : goCn c (i : Int) m.server.gen m.up = G
 have hsame : G.2.2 ≠ 0 → ∃ ks' bz',MInv l (if G.2.2 ≠ 0 then (m,G.2.2) else if G.2.1 ≠ [] then if (comeSv m.server G.2.1).2 ≠ 0 then (m,(comeSv m.server G.2.1).2) else ({ m with server:=(comeSv m.server G.2.1).1,clients:=m.clients.set i G.1 },0) else ({ m with clients:=m.clients.set i G.1 },0)).1 ks' bz':=fun hne=>by
  rw [if_pos hne]; exact ⟨ks,bz,h⟩
 have hempty : c.box = [] → i ∉ ks → bz ≠ some i → (c.sent = true → m.up = true → c.gen ≠ m.server.gen) →
   ∃ ks' bz',MInv l (if G.2.2 ≠ 0 then (m,G.2.2) else if G.2.1 ≠ [] then if (comeSv m.server G.2.1).2 ≠ 0 then (m,(comeSv m.server G.2.1).2) else ({ m with server:=(comeSv m.server G.2.1).1,clients:=m.clients.set i G.1 },0) else ({ m with clients:=m.clients.set i G.1 },0)).1 ks' bz':=by
  intro hb hk hz hs
  rw [goCn_none hb] at hG
  by_cases hd : (c.calls.length : Int) ≤ c.at_
  ·rw [if_pos hd] at hG; exact hsame (by rw [← hG]; simp)
  rw [if_neg hd] at hG
  by_cases hu : m.up = true
  case neg=>rw [if_pos hu] at hG; exact hsame (by rw [← hG]; simp)
  rw [if_neg (fun x=>x hu)] at hG
  by_cases hw : c.sent = true ∧ c.gen = m.server.gen
  ·rw [if_pos hw] at hG; exact hsame (by rw [← hG]; simp)
  rw [if_neg hw] at hG
  have hcalls:=ci.calls
  have hat:=ci.at_
  have hlt : c.got.length < (l.getD i []).length:=by rw [← hcalls]; omega
  have hreq : (⟨(i : Int),c.at_,c.calls.getD c.at_.toNat ⟨0,0,0,0⟩⟩ : Rq) = reqOf l i c.got.length:=by
   unfold reqOf
   rw [hcalls,hat]
   rfl
  rw [hreq] at hG
  subst hG
  have hks : ks.length < 3:=by
   have hsub : (i :: ks).Nodup:=List.nodup_cons.2 ⟨hk,h.nodup⟩
   have hle : (i :: ks).length ≤ l.length:=nodup_le hsub (fun x hx=>by
    rcases List.mem_cons.1 hx with rfl | hx
    ·exact hil
    ·exact h.ksl x hx)
   have:=hl.1
   simp at hle
   omega
  have hbl : m.server.box.length = ks.length:=by rw [h.box,List.length_map]
  have hcome : comeSv m.server (reqB (reqOf l i c.got.length)) = ({ m.server with box:=m.server.box ++ [reqB (reqOf l i c.got.length)] },0):=by
   unfold comeSv
   rw [if_neg (by omega)]
  rw [if_neg (by simp),if_pos (by simp [reqB])]
  simp only []
  rw [hcome,if_neg (by simp)]
  refine ⟨ks ++ [i],bz,?_⟩
  have hgs:=fun k=>gotOf_same (c':=(⟨c.calls,c.at_,true,m.server.gen,[],c.got⟩ : Cn)) hc rfl k
  exact {
   nc:=by show (m.clients.set i _).length = _; rw [List.length_set]; exact h.nc
   nodup:=by
    rw [List.nodup_append]
    refine ⟨h.nodup,by simp,fun x hx y hy e=>?_⟩
    simp at hy
    subst hy
    subst e
    exact hk hx
   ksl:=fun k hx=>by
    rcases List.mem_append.1 hx with hx | hx
    ·exact h.ksl k hx
    ·simp at hx; subst hx; exact hil
   box:=by
    show m.server.box ++ [reqB (reqOf l i c.got.length)] = _
    rw [List.map_append,h.box]
    simp only [hgs]
    rw [List.map_cons,List.map_nil,gotOf_at hc]
   busy:=h.busy
   idle:=fun hz=>by
    show ({ m.server with box:=m.server.box ++ [reqB (reqOf l i c.got.length)] } : Sv) = idleSv m.server.gen (m.server.box ++ [reqB (reqOf l i c.got.length)])
    rw [h.idle hz]
    rfl
   work:=fun j hj=>by
    obtain ⟨w1,w2,w3,w4,w5⟩:=h.work j hj
    exact ⟨w1,by show m.server.now = reqOf l j (gotOf (m.clients.set i _) j); rw [hgs]; exact w2,w3,w4,w5⟩
   down:=fun hd=>absurd hd (by simp [hu])
   upp:=h.upp
   clean:=h.clean
   cells:=h.cells
   right:=h.right
   nm:=h.nm
   undo:=h.undo
   past:=h.past
   falls:=h.falls
   gens:=h.gens
   clients:=fun k d hd=>by
    rcases set_at hc hd with ⟨rfl,rfl⟩ | ⟨hne,hd⟩
    ·exact ⟨hcalls,hat,ci.done,ci.most,ci.got,ci.step,ci.last,Int.le_refl _,.wait (by simp) hz rfl rfl rfl hlt⟩
    ·refine (h.clients k d hd).other rfl rfl rfl ?_ Iff.rfl
     simp [hne] }
 cases ci.phase with
 | rest a b d e f=>exact hempty e a b (fun x=>by rw [d] at x; cases x)
 | wait a b d e f g =>
  refine hsame ?_
  rw [← hG,goCn_none f]
  have hcalls:=ci.calls
  have hat:=ci.at_
  rw [if_neg (by rw [hcalls,hat]; omega)]
  by_cases hu : m.up = true
  ·rw [if_neg (fun x=>x hu),if_pos ⟨d,e⟩]; simp
  ·rw [if_pos hu]; simp
 | work a b d e f g k =>
  refine hsame ?_
  rw [← hG,goCn_none f]
  have hcalls:=ci.calls
  have hat:=ci.at_
  rw [if_neg (by rw [hcalls,hat]; omega)]
  by_cases hu : m.up = true
  ·rw [if_neg (fun x=>x hu),if_pos ⟨d,e⟩]; simp
  ·rw [if_pos hu]; simp
 | lost a b d e f g=>exact hempty e a b (fun _=>g)
 | hear a b d e f =>
  have htl:=told_len m.store.past i
  have hmost:=ci.most
  have hw:=right_ans hl h.past hil (t:=c.got.length) (by omega) (by omega)
  rw [goCn_hear f hw rfl ci.at_.symm d] at hG
  subst hG
  rw [if_neg (by simp),if_neg (by simp)]
  simp only []
  refine ⟨ks,bz,?_⟩
  have hgn : ∀ k,k ≠ i → gotOf (m.clients.set i (⟨c.calls,c.at_ + 1,false,c.gen,[],c.got ++ [(told m.store.past i).getD c.got.length ⟨0,0⟩]⟩ : Cn)) k = gotOf m.clients k:=fun k hk=>gotOf_ne hk
  exact {
   nc:=by show (m.clients.set i _).length = _; rw [List.length_set]; exact h.nc
   nodup:=h.nodup
   ksl:=h.ksl
   box:=by
    show m.server.box = _
    rw [h.box]
    refine List.map_congr_left fun k hk=>?_
    rw [hgn k (fun e=>by subst e; exact a hk)]
   busy:=h.busy
   idle:=h.idle
   work:=fun j hj=>by
    obtain ⟨w1,w2,w3,w4,w5⟩:=h.work j hj
    exact ⟨w1,by show m.server.now = reqOf l j (gotOf (m.clients.set i _) j); rw [hgn j (fun e=>by subst e; exact b hj)]; exact w2,w3,w4,w5⟩
   down:=h.down
   upp:=h.upp
   clean:=h.clean
   cells:=h.cells
   right:=h.right
   nm:=h.nm
   undo:=h.undo
   past:=h.past
   falls:=h.falls
   gens:=h.gens
   clients:=fun k x hx=>by
    rcases set_at hc hx with ⟨rfl,rfl⟩ | ⟨hne,hx⟩
    ·have hgl : (c.got ++ [(told m.store.past k).getD c.got.length ⟨0,0⟩]).length = c.got.length + 1:=by simp
     refine ⟨ci.calls,?_,ci.done,ci.most,?_,.inl ?_,ci.last,ci.hgen,.rest a b rfl rfl ?_⟩
     ·show c.at_ + 1 = _; rw [hgl,ci.at_]; omega
     ·show c.got ++ _ = _
      rw [hgl,take_one (by omega : c.got.length < (told m.store.past k).length),← ci.got]
     ·show _ = List.length _; rw [hgl]; exact e
     ·show _ = List.length _; rw [hgl]; exact e
    ·exact h.clients k x hx }
end Go.Mk

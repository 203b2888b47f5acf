/- Texts of the proof, merged: Read3 Mem3 Math1 Math5 Math8 Math9 Mem4 Mem5 Read4 Read5 Mem6 MonoW Mem7. -/
import Derived.Test.YtdmipnnfooleladGreatJA
import Derived.ArgAppend

namespace Go.Mk
open Go Go.RowKit Go.ChangeShapes Go.WideShapes

section
variable {P : Program} {H : Type} {enc : TypeId × Value → H} {W : World} {X : Type}

/-- A request by value. -/
theorem read_req {e : TypeId} {g0 g1 g2 f0 f1 f2 f3 : Field} {v : Value} {d : DataW H} {p : List MemPlace} (he : P.underlying e = some (.struct #[g0,g1,g2])) (hc : P.cellsOf e = 6)
  (i0 : P.underlying g0.type = some (.int .i64)) (i1 : P.underlying g1.type = some (.int .i64)) (i2 : P.underlying g2.type = some (.struct #[f0,f1,f2,f3]))
  (q0 : g0.offset = 0) (q1 : g1.offset = 1) (q2 : g2.offset = 2) (d0 : P.cellsOf g0.type = 1) (d1 : P.cellsOf g1.type = 1) (d2 : P.cellsOf g2.type = 4)
  (h0 : P.underlying f0.type = some (.int .i64)) (h1 : P.underlying f1.type = some (.int .i64)) (h2 : P.underlying f2.type = some (.int .i64)) (h3 : P.underlying f3.type = some (.int .i64))
  (o0 : f0.offset = 0) (o1 : f1.offset = 1) (o2 : f2.offset = 2) (o3 : f3.offset = 3) (c0 : P.cellsOf f0.type = 1) (c1 : P.cellsOf f1.type = 1) (c2 : P.cellsOf f2.type = 1) (c3 : P.cellsOf f3.type = 1)
  {b0 : Nat} (hv : Value.okWide P W .any b0 e v) (h : DataW.Trod enc P W 0 (fun _=>true) true e v d p) : ∃ c t k a o n : Int,v = .agg #[I c,I t,I k,I a,I o,I n]:=by
 obtain ⟨cs,rfl,hsz⟩:=okWide_struct he hv
 obtain ⟨fuel,hf⟩:=h
 obtain ⟨r,hx⟩:=trod_req he hc i0 i1 i2 q0 q1 q2 d0 d1 d2 h0 h1 h2 h3 o0 o1 o2 o3 c0 c1 c2 c3 hf
 refine ⟨r.client,r.token,r.call.kind,r.call.name,r.call.other,r.call.n,?_⟩
 simp only [Value.cells] at hx
 rw [show cs = #[I r.client,I r.token,I r.call.kind,I r.call.name,I r.call.other,I r.call.n] from by cases cs; simp_all]

end
end Go.Mk

namespace Go.Mk
open Go Go.RowKit

/-- What is known of an element's cells. -/
abbrev El (X : Type):=World → List Value → X → Prop
def MonoR {X : Type} (R : El X) : Prop:=∀ w w' c x,Ext w w' → R w c x → R w' c x
def OneR {X : Type} (R : El X) : Prop:=∀ w c x,R w c x → ∀ u ∈ c,u.oneCell' = true

section
variable {X : Type} {size : Nat} {R : El X}

/-- The cells css are those of the elements xs. -/
def Each (size : Nat) (R : El X) (w : World) (css : List (List Value)) (xs : List X) : Prop :=
 css.length = xs.length ∧ ∀ (i : Nat) c x,css[i]? = some c → xs[i]? = some x → c.length = size ∧ R w c x

theorem Each.ext (hR : MonoR R) {w w' : World} {css : List (List Value)} {xs : List X} (h : Each size R w css xs) (he : Ext w w') : Each size R w' css xs :=
 ⟨h.1,fun i c x hc hx=>⟨(h.2 i c x hc hx).1,hR _ _ _ _ he (h.2 i c x hc hx).2⟩⟩
theorem Each.nil (w : World) : Each size R w [] []:=⟨rfl,fun i c x hc=>by simp at hc⟩
theorem Each.snoc {w : World} {css : List (List Value)} {xs : List X} {c : List Value} {x : X} (h : Each size R w css xs) (hc : c.length = size) (hr : R w c x) : Each size R w (css ++ [c]) (xs ++ [x]):=by
 refine ⟨by simp [h.1],fun i d y hd hy=>?_⟩
 by_cases hi : i < css.length
 ·rw [List.getElem?_append_left hi] at hd
  rw [List.getElem?_append_left (by rw [← h.1]; exact hi)] at hy
  exact h.2 i d y hd hy
 ·have hlt:=(List.getElem?_eq_some_iff.1 hd).1
  simp at hlt
  have hi2 : i = css.length:=by omega
  subst hi2
  rw [List.getElem?_append_right (Nat.le_refl _)] at hd
  rw [h.1,List.getElem?_append_right (Nat.le_refl _)] at hy
  simp at hd hy
  subst hd hy
  exact ⟨hc,hr⟩
theorem Each.append {w : World} {css dss : List (List Value)} {xs ys : List X} (h : Each size R w css xs) (k : Each size R w dss ys) : Each size R w (css ++ dss) (xs ++ ys):=by
 refine ⟨by simp [h.1,k.1],fun i d y hd hy=>?_⟩
 by_cases hi : i < css.length
 ·rw [List.getElem?_append_left hi] at hd
  rw [List.getElem?_append_left (by rw [← h.1]; exact hi)] at hy
  exact h.2 i d y hd hy
 ·rw [List.getElem?_append_right (by omega)] at hd
  rw [List.getElem?_append_right (by rw [← h.1]; omega),← h.1] at hy
  exact k.2 _ d y hd hy
theorem Each.take {w : World} {css : List (List Value)} {xs : List X} (h : Each size R w css xs) (k : Nat) : Each size R w (css.take k) (xs.take k):=by
 refine ⟨by simp [h.1],fun i d y hd hy=>?_⟩
 rw [List.getElem?_take] at hd hy
 split at hd
 ·rw [if_pos (by assumption)] at hy; exact h.2 i d y hd hy
 ·cases hd
theorem Each.drop {w : World} {css : List (List Value)} {xs : List X} (h : Each size R w css xs) (k : Nat) : Each size R w (css.drop k) (xs.drop k):=by
 refine ⟨by simp [h.1],fun i d y hd hy=>?_⟩
 rw [List.getElem?_drop] at hd hy
 exact h.2 _ d y hd hy
theorem Each.set {w : World} {css : List (List Value)} {xs : List X} (h : Each size R w css xs) (k : Nat) {c : List Value} {x : X} (hc : c.length = size) (hr : R w c x) : Each size R w (css.set k c) (xs.set k x):=by
 refine ⟨by simp [h.1],fun i d y hd hy=>?_⟩
 rw [List.getElem?_set] at hd hy
 split at hd
 ·rename_i hki
  split at hd
  ·rw [if_pos hki,if_pos (by rw [← h.1]; assumption)] at hy
   simp at hd hy
   subst hd hy
   exact ⟨hc,hr⟩
  ·cases hd
 ·rw [if_neg (by assumption)] at hy
  exact h.2 i d y hd hy
theorem Each.sizes {w : World} {css : List (List Value)} {xs : List X} (h : Each size R w css xs) : ∀ c ∈ css,c.length = size:=fun c hc=>by
 obtain ⟨i,hi⟩:=List.mem_iff_getElem?.1 hc
 have hlt:=(List.getElem?_eq_some_iff.1 hi).1
 have hx : xs[i]? = some (xs[i]'(by rw [← h.1]; exact hlt)):=List.getElem?_eq_getElem _
 exact (h.2 i c _ hi hx).1
theorem Each.ones (hO : OneR R) {w : World} {css : List (List Value)} {xs : List X} (h : Each size R w css xs) : ∀ u ∈ css.flatten,u.oneCell' = true:=fun u hu=>by
 obtain ⟨c,hc,huc⟩:=List.mem_flatten.1 hu
 obtain ⟨i,hi⟩:=List.mem_iff_getElem?.1 hc
 have hlt:=(List.getElem?_eq_some_iff.1 hi).1
 have hx : xs[i]? = some (xs[i]'(by rw [← h.1]; exact hlt)):=List.getElem?_eq_getElem _
 exact hO _ _ _ (h.2 i c _ hi hx).2 u huc

/-- A slice that reads as xs. -/
def RowOf (size : Nat) (R : El X) (w : World) (v : Value) (xs : List X) : Prop:=∃ css,Each size R w css xs ∧ Row w size v xs.length css.flatten

theorem RowOf.ext (hR : MonoR R) {w w' : World} {v : Value} {xs : List X} (h : RowOf size R w v xs) (he : Ext w w') : RowOf size R w' v xs:=by
 obtain ⟨css,h1,h2⟩:=h
 exact ⟨css,h1.ext hR he,h2.ext he⟩
theorem RowOf.mono (hR : MonoR R) (xs : List X) : ∀ v,MonoP (fun w=>RowOf size R w v xs):=fun _ _ _ he h=>RowOf.ext hR h he
theorem RowOf.nil (w : World) : RowOf size R w (.slice none 0 0) []:=⟨[],Each.nil w,Row.of_owns (World.ownsRow_nil w 0 0 size)⟩

theorem flatten_get (hs : 0 < size) {css : List (List Value)} (h : ∀ c ∈ css,c.length = size) {k j : Nat} {c : List Value} {u : Value} (hc : css[k]? = some c) (hj : c[j]? = some u) : css.flatten[k * size + j]? = some u:=by
 have hjl : j < size:=by rw [← h c (List.mem_of_getElem? hc)]; exact (List.getElem?_eq_some_iff.1 hj).1
 rw [flatten_at size hs css h]
 rw [show (k * size + j) / size = k by rw [Nat.mul_comm,Nat.mul_add_div hs,Nat.div_eq_of_lt hjl,Nat.add_zero],show (k * size + j) % size = j by rw [Nat.mul_comm,Nat.mul_add_mod,Nat.mod_eq_of_lt hjl],hc]
 exact hj

/-- The slice's own form, as a walk wants it. -/
theorem RowOf.form (hs : 0 < size) {w : World} {v : Value} {xs : List X} (h : RowOf size R w v xs) : ∃ ao cap,v = .slice ao xs.length cap ∧ xs.length ≤ cap ∧ cap ≤ maxLen ∧ (ao = none → cap = 0) ∧
  ∀ k x,xs[k]? = some x → ∃ b off c,ao = some ⟨b,off,none⟩ ∧ c.length = size ∧ R w c x ∧ ∀ j u,c[j]? = some u → w.cell? ⟨b,off + (k * size + j),none⟩ = some u:=by
 obtain ⟨css,he,hl,ao,cap,h2,h3,h4,h0,h5⟩:=h
 refine ⟨ao,cap,h2,h3,h4,h0,fun k x hx=>?_⟩
 have hk : k < css.length:=by rw [he.1]; exact (List.getElem?_eq_some_iff.1 hx).1
 have hc : css[k]? = some css[k]:=List.getElem?_eq_getElem hk
 obtain ⟨c1,c2⟩:=he.2 k _ x hc hx
 have hall:=he.sizes
 have h0' : ∃ u,css[k][0]? = some u:=⟨css[k][0]'(by rw [c1]; exact hs),List.getElem?_eq_getElem _⟩
 obtain ⟨u0,hu0⟩:=h0'
 obtain ⟨b,off,e,_⟩:=h5 _ _ (flatten_get hs hall hc hu0)
 refine ⟨b,off,css[k],e,c1,c2,fun j u hj=>?_⟩
 obtain ⟨b',off',e',hc'⟩:=h5 _ _ (flatten_get hs hall hc hj)
 rw [e] at e'
 simp only [Option.some.injEq,Addr.mk.injEq,and_true] at e'
 obtain ⟨rfl,rfl⟩:=e'
 exact hc'

theorem flatten_take (hs : 0 < size) : ∀ {css : List (List Value)} (_ : ∀ c ∈ css,c.length = size) (k : Nat),(css.take k).flatten = css.flatten.take (k * size)
 | [],_,k=>by simp
 | c :: css,h,0=>by simp
 | c :: css,h,k + 1=>by
  have hc : c.length = size:=h c (by simp)
  rw [List.take_succ_cons,List.flatten_cons,List.flatten_cons,flatten_take hs (fun c hc=>h c (by simp [hc])) k,show (k + 1) * size = c.length + k * size by rw [hc,Nat.add_mul]; omega,List.take_append,List.take_of_length_le (l:=c) (by omega),show c.length + k * size - c.length = k * size by omega]
theorem flatten_drop (hs : 0 < size) : ∀ {css : List (List Value)} (_ : ∀ c ∈ css,c.length = size) (k : Nat),(css.drop k).flatten = css.flatten.drop (k * size)
 | [],_,k=>by simp
 | c :: css,h,0=>by simp
 | c :: css,h,k + 1=>by
  have hc : c.length = size:=h c (by simp)
  rw [List.drop_succ_cons,List.flatten_cons,flatten_drop hs (fun c hc=>h c (by simp [hc])) k,show (k + 1) * size = c.length + k * size by rw [hc,Nat.add_mul]; omega,List.drop_append,List.drop_of_length_le (l:=c) (by omega),show c.length + k * size - c.length = k * size by omega,List.nil_append]

/-- s[:k]. -/
theorem RowOf.take (hs : 0 < size) {w : World} {ao : Option Addr} {n cap : Nat} {xs : List X} (h : RowOf size R w (.slice ao n cap) xs) (k : Nat) (hk : k ≤ xs.length) : RowOf size R w (.slice ao k cap) (xs.take k):=by
 obtain ⟨css,he,hr⟩:=h
 have hn : n = xs.length:=by
  obtain ⟨_,ao',cap',e,_⟩:=hr
  simp at e
  exact e.2.1
 subst hn
 refine ⟨css.take k,he.take k,?_⟩
 rw [flatten_take hs he.sizes,List.length_take,Nat.min_eq_left hk]
 exact hr.take k hk

/-- s[k:]. -/
theorem RowOf.drop (hs : 0 < size) {w : World} {b off n cap : Nat} {xs : List X} (h : RowOf size R w (.slice (some ⟨b,off,none⟩) n cap) xs) (k : Nat) (hk : k ≤ xs.length) : RowOf size R w (.slice (some ⟨b,off + k * size,none⟩) (xs.length - k) (cap - k)) (xs.drop k):=by
 obtain ⟨css,he,hl,ao',cap',h2,h3,h4,h0,h5⟩:=h
 simp only [Value.slice.injEq] at h2
 obtain ⟨rfl,rfl,rfl⟩:=h2
 refine ⟨css.drop k,he.drop k,?_⟩
 rw [flatten_drop hs he.sizes,List.length_drop]
 refine ⟨by rw [List.length_drop,hl,Nat.sub_mul],_,_,rfl,by omega,by omega,(fun h=>by cases h),fun j u hj=>?_⟩
 rw [List.getElem?_drop] at hj
 obtain ⟨b',off',e',hc'⟩:=h5 _ u hj
 simp only [Option.some.injEq,Addr.mk.injEq,and_true] at e'
 obtain ⟨rfl,rfl⟩:=e'
 exact ⟨b,off + k * size,rfl,by rw [Nat.add_assoc]; exact hc'⟩

/-- .. that lies in memory of its own. -/
def OwnOf (base e size : Nat) (R : El X) (w : World) (v : Value) (xs : List X) : Prop:=∃ css,Each size R w css xs ∧ w.ownsRow base e size v xs.length css.flatten

theorem OwnOf.row {base e : Nat} {w : World} {v : Value} {xs : List X} (h : OwnOf base e size R w v xs) : RowOf size R w v xs:=by
 obtain ⟨css,h1,h2⟩:=h
 exact ⟨css,h1,Row.of_owns h2⟩
theorem OwnOf.nil (base e : Nat) (w : World) : OwnOf base e size R w (.slice none 0 0) []:=⟨[],Each.nil w,World.ownsRow_nil w base e size⟩
theorem OwnOf.ext (hR : MonoR R) {base e : Nat} {w w' : World} {v : Value} {xs : List X} (h : OwnOf base e size R w v xs) (he : Ext w w') : OwnOf base e size R w' v xs:=by
 obtain ⟨css,h1,h2⟩:=h
 exact ⟨css,h1.ext hR he,owns_ext h2 he⟩
theorem OwnOf.mono (hR : MonoR R) (base e : Nat) (xs : List X) : ∀ v,MonoP (fun w=>OwnOf base e size R w v xs):=fun _ _ _ he h=>OwnOf.ext hR h he

end
end Go.Mk

/- Chapter 1, plain mathematics: cells as lists of numbers. -/
namespace Go.Mk

/-- As many entries as cell 0 tells, and as there is room for. -/
def entriesOf (xs : List Int) : Int:=if xs.length = 0 then 0 else min (xs.getD 0 0) (((xs.length : Int) - 1) / 2)

/-- The first of n entries from i on that has that name. -/
def findIn (xs : List Int) (name : Int) : Nat → Nat → Int
 | 0,_=>-1
 | n + 1,i=>if xs.getD (1 + 2 * i) 0 = name then (i : Int) else findIn xs name n (i + 1)

theorem findIn_hit {xs : List Int} {name n : Int} {k : Nat} (hlt : (k : Int) < n) (h : (xs.getD (1 + 2 * k) 0 == name) = true) : findIn xs name (n.toNat - k) k = (k : Int):=by
 obtain ⟨m,hm⟩ : ∃ m,n.toNat - k = m + 1:=⟨n.toNat - k - 1,by omega⟩
 rw [hm,findIn,if_pos (by simpa using h)]
theorem findIn_miss {xs : List Int} {name n : Int} {k : Nat} (hlt : (k : Int) < n) (h : (xs.getD (1 + 2 * k) 0 == name) = false) : findIn xs name (n.toNat - k) k = findIn xs name (n.toNat - (k + 1)) (k + 1):=by
 obtain ⟨m,hm⟩ : ∃ m,n.toNat - k = m + 1:=⟨n.toNat - k - 1,by omega⟩
 rw [hm,findIn,if_neg (by simpa using h),show n.toNat - (k + 1) = m by omega]
theorem findIn_end {xs : List Int} {name n : Int} {k : Nat} (hlt : ¬ (k : Int) < n) : findIn xs name (n.toNat - k) k = -1:=by
 rw [show n.toNat - k = 0 by omega,findIn]
/-- What is wrong with entry i. -/
def wrongAt (xs : List Int) (i : Nat) : Int :=
 if ¬ (1 ≤ xs.getD (1 + 2 * i) 0 ∧ xs.getD (1 + 2 * i) 0 ≤ 255) ∨ ¬ (-1073741824 ≤ xs.getD (2 + 2 * i) 0 ∧ xs.getD (2 + 2 * i) 0 ≤ 1073741824) then 3
 else if 0 ≤ findIn xs (xs.getD (1 + 2 * i) 0) i 0 then 7 else 0

def wrongIn (xs : List Int) : Nat → Nat → Int
 | 0,_=>0
 | n + 1,i=>if wrongAt xs i = 0 then wrongIn xs n (i + 1) else wrongAt xs i

/-- What is wrong with cells. -/
def wrongOf (xs : List Int) : Int :=
 if xs.length ≠ 11 then 5 else if ¬ (0 ≤ xs.getD 0 0 ∧ xs.getD 0 0 ≤ 5) then 3 else wrongIn xs (xs.getD 0 0).toNat 0

/-- One write: a cell that there is not is none. -/
def set1 (xs : List Int) (p : Int × Int) : List Int:=if 0 ≤ p.1 ∧ p.1 < (xs.length : Int) then xs.set p.1.toNat p.2 else xs
/-- Write by write. -/
def setAll (xs : List Int) (l : List (Int × Int)) : List Int:=l.foldl set1 xs
/-- What takes the writes back: the last one first. -/
def undoAll (xs : List Int) : List (Int × Int) → List (Int × Int)
 | []=>[]
 | p :: l=>undoAll (set1 xs p) l ++ (if 0 ≤ p.1 ∧ p.1 < (xs.length : Int) then [(p.1,xs.getD p.1.toNat 0)] else [])

theorem length_set1 (xs : List Int) (p : Int × Int) : (set1 xs p).length = xs.length:=by unfold set1; split <;> simp
theorem length_setAll (xs : List Int) (l : List (Int × Int)) : (setAll xs l).length = xs.length:=by
 induction l generalizing xs with
 | nil=>rfl
 | cons p l ih=>show (setAll (set1 xs p) l).length = _; rw [ih,length_set1]

theorem setAll_snoc (xs : List Int) (l : List (Int × Int)) (p : Int × Int) : setAll xs (l ++ [p]) = set1 (setAll xs l) p:=by simp [setAll]

theorem undoAll_snoc (xs : List Int) (l : List (Int × Int)) (p : Int × Int) :
  undoAll xs (l ++ [p]) = (if 0 ≤ p.1 ∧ p.1 < (xs.length : Int) then [(p.1,(setAll xs l).getD p.1.toNat 0)] else []) ++ undoAll xs l:=by
 induction l generalizing xs with
 | nil=>simp [undoAll,setAll]
 | cons q l ih =>
  show undoAll (set1 xs q) (l ++ [p]) ++ _ = _ ++ (undoAll (set1 xs q) l ++ _)
  rw [ih,length_set1,← List.append_assoc]
  rfl

theorem undoAll_len (xs : List Int) (l : List (Int × Int)) : (undoAll xs l).length ≤ l.length:=by
 induction l generalizing xs with
 | nil=>simp [undoAll]
 | cons p l ih =>
  rw [undoAll,List.length_append]
  have:=ih (set1 xs p)
  simp only [List.length_cons]
  split <;> simp <;> omega

/-- A list turned round, as far as k from both ends. -/
def rv (us : List (Int × Int)) (k : Nat) : List (Int × Int):=(List.range us.length).map fun i=>if i < k ∨ us.length ≤ i + k then us.getD (us.length - 1 - i) (0,0) else us.getD i (0,0)
theorem length_rv (us : List (Int × Int)) (k : Nat) : (rv us k).length = us.length:=by simp [rv]
theorem getElem?_rv (us : List (Int × Int)) (k i : Nat) : (rv us k)[i]? = if i < us.length then some (if i < k ∨ us.length ≤ i + k then us.getD (us.length - 1 - i) (0,0) else us.getD i (0,0)) else none:=by
 unfold rv
 rw [List.getElem?_map]
 by_cases h : i < us.length
 ·simp [h]
 ·simp [h]
theorem rv_zero (us : List (Int × Int)) : rv us 0 = us:=by
 apply List.ext_getElem?
 intro i
 rw [getElem?_rv]
 by_cases h : i < us.length
 ·rw [if_pos h,if_neg (by omega)]
  simp [h]
 ·rw [if_neg h]
  simp [h]
theorem rv_end (us : List (Int × Int)) (k : Nat) (h : us.length ≤ 2 * k + 1) : rv us k = us.reverse:=by
 apply List.ext_getElem?
 intro i
 rw [getElem?_rv]
 by_cases hi : i < us.length
 ·rw [if_pos hi,List.getElem?_reverse hi]
  have h1 : us.length - 1 - i < us.length:=by omega
  by_cases hc : i < k ∨ us.length ≤ i + k
  ·rw [if_pos hc]
   simp [h1]
  ·rw [if_neg hc,show us.length - 1 - i = i by omega]
   simp [hi]
 ·rw [if_neg hi]
  rw [List.getElem?_eq_none (by simp; omega)]
theorem rv_step (us : List (Int × Int)) (k : Nat) (h : 2 * k + 1 < us.length) : rv us (k + 1) = ((rv us k).set k (us.getD (us.length - 1 - k) (0,0))).set (us.length - 1 - k) (us.getD k (0,0)):=by
 apply List.ext_getElem?
 intro i
 rw [getElem?_rv,List.getElem?_set,List.length_set,length_rv,List.getElem?_set,length_rv,getElem?_rv]
 by_cases hi : i < us.length
 ·rw [if_pos hi]
  by_cases h1 : us.length - 1 - k = i
  ·rw [if_pos h1,if_pos (by omega),if_pos (by omega),show us.length - 1 - i = k by omega]
  ·rw [if_neg h1]
   by_cases h2 : k = i
   ·subst h2
    rw [if_pos rfl,if_pos hi,if_pos (by omega)]
   ·rw [if_neg h2,if_pos hi]
    by_cases h3 : i < k ∨ us.length ≤ i + k
    ·rw [if_pos h3,if_pos (by omega)]
    ·rw [if_neg h3,if_neg (by omega)]
 ·rw [if_neg hi,if_neg (by omega),if_neg (by omega),if_neg hi]
theorem rv_at (us : List (Int × Int)) (k : Nat) (h : 2 * k + 1 < us.length) : (rv us k).getD k (0,0) = us.getD k (0,0) ∧ (rv us k).getD (us.length - 1 - k) (0,0) = us.getD (us.length - 1 - k) (0,0):=by
 constructor
 ·rw [List.getD_eq_getElem?_getD,getElem?_rv,if_pos (by omega),if_neg (by omega)]; rfl
 ·rw [List.getD_eq_getElem?_getD,getElem?_rv,if_pos (by omega),if_neg (by omega)]; rfl

/-- What cell i has behind the writes, write by write. -/
def lastAt (l : List (Int × Int)) (i : Int) (n : Int) : Int:=l.foldl (fun n p=>if p.1 = i then p.2 else n) n
theorem lastAt_snoc (l : List (Int × Int)) (p : Int × Int) (i n : Int) : lastAt (l ++ [p]) i n = if p.1 = i then p.2 else lastAt l i n:=by simp [lastAt]
theorem set1_at (xs : List Int) (p : Int × Int) (i : Nat) (hi : i < xs.length) : (set1 xs p).getD i 0 = if p.1 = (i : Int) then p.2 else xs.getD i 0:=by
 unfold set1
 by_cases h : 0 ≤ p.1 ∧ p.1 < (xs.length : Int)
 ·rw [if_pos h]
  by_cases he : p.1 = (i : Int)
  ·rw [if_pos he,show p.1.toNat = i by omega]
   simp [hi]
  ·rw [if_neg he,List.getD_eq_getElem?_getD,List.getElem?_set_ne (by omega),List.getD_eq_getElem?_getD]
 ·rw [if_neg h,if_neg (by omega)]
theorem setAll_at (xs : List Int) (l : List (Int × Int)) (i : Nat) (hi : i < xs.length) : (setAll xs l).getD i 0 = lastAt l i (xs.getD i 0):=by
 induction l generalizing xs with
 | nil=>rfl
 | cons p l ih =>
  show (setAll (set1 xs p) l).getD i 0 = lastAt l i (if p.1 = (i : Int) then p.2 else xs.getD i 0)
  rw [ih _ (by rw [length_set1]; exact hi),set1_at xs p i hi]
theorem setAll_take (xs : List Int) (l : List (Int × Int)) (k : Nat) (hk : k < xs.length) : (setAll xs l).take (k + 1) = (setAll xs l).take k ++ [lastAt l k (xs.getD k 0)]:=by
 rw [← setAll_at xs l k hk,List.take_add_one]
 have : k < (setAll xs l).length:=by rw [length_setAll]; exact hk
 simp [this]

end Go.Mk

namespace Go.Mk
open Go Go.RowKit

theorem ofCells_at (xs : List Int) (n i : Nat) (h : i < n) : (ofCells xs n).getD i (0,0) = (xs.getD (1 + 2 * i) 0,xs.getD (1 + 2 * i + 1) 0):=by
 simp [ofCells,List.getD_eq_getElem?_getD,h]

/-! ### Right cells are cells whose names are right -/

theorem find_none (xs : List Int) (name : Int) : ∀ n i,findIn xs name n i < 0 ↔ ∀ j,i ≤ j → j < i + n → xs.getD (1 + 2 * j) 0 ≠ name
 | 0,i=>by
  constructor
  ·intro _ j h1 h2; omega
  ·intro _; simp [findIn]
 | n + 1,i=>by
  rw [findIn]
  by_cases h : xs.getD (1 + 2 * i) 0 = name
  ·rw [if_pos h]
   constructor
   ·intro h2; omega
   ·intro h2; exact absurd h (h2 i (Nat.le_refl _) (by omega))
  ·rw [if_neg h,find_none xs name n (i + 1)]
   constructor
   ·intro h2 j h3 h4
    by_cases e : j = i
    ·rw [e]; exact h
    ·exact h2 j (by omega) (by omega)
   ·intro h2 j h3 h4
    exact h2 j (by omega) (by omega)
theorem wrongIn_zero (xs : List Int) : ∀ n i,wrongIn xs n i = 0 ↔ ∀ j,i ≤ j → j < i + n → wrongAt xs j = 0
 | 0,i=>by
  constructor
  ·intro _ j h1 h2; omega
  ·intro _; rfl
 | n + 1,i=>by
  rw [wrongIn]
  by_cases h : wrongAt xs i = 0
  ·rw [if_pos h,wrongIn_zero xs n (i + 1)]
   constructor
   ·intro h2 j h3 h4
    by_cases e : j = i
    ·rw [e]; exact h
    ·exact h2 j (by omega) (by omega)
   ·intro h2 j h3 h4
    exact h2 j (by omega) (by omega)
  ·rw [if_neg h]
   constructor
   ·intro h2; exact absurd h2 h
   ·intro h2; exact absurd (h2 i (Nat.le_refl _) (by omega)) h
theorem wrongAt_zero (xs : List Int) (i : Nat) : wrongAt xs i = 0 ↔ (1 ≤ xs.getD (1 + 2 * i) 0 ∧ xs.getD (1 + 2 * i) 0 ≤ 255 ∧ -1073741824 ≤ xs.getD (1 + 2 * i + 1) 0 ∧ xs.getD (1 + 2 * i + 1) 0 ≤ 1073741824) ∧ ∀ j,j < i → xs.getD (1 + 2 * j) 0 ≠ xs.getD (1 + 2 * i) 0:=by
 unfold wrongAt
 rw [show 2 + 2 * i = 1 + 2 * i + 1 by omega]
 have hf:=find_none xs (xs.getD (1 + 2 * i) 0) i 0
 by_cases h1 : ¬ (1 ≤ xs.getD (1 + 2 * i) 0 ∧ xs.getD (1 + 2 * i) 0 ≤ 255) ∨ ¬ (-1073741824 ≤ xs.getD (1 + 2 * i + 1) 0 ∧ xs.getD (1 + 2 * i + 1) 0 ≤ 1073741824)
 ·rw [if_pos h1]
  constructor
  ·intro h; cases h
  ·intro h; omega
 ·rw [if_neg h1]
  by_cases h2 : 0 ≤ findIn xs (xs.getD (1 + 2 * i) 0) i 0
  ·rw [if_pos h2]
   constructor
   ·intro h; cases h
   ·intro h
    have:=hf.2 (fun j _ h4=>h.2 j (by omega))
    omega
  ·rw [if_neg h2]
   constructor
   ·intro _
    exact ⟨by omega,fun j hj=>hf.1 (by omega) j (Nat.zero_le _) (by omega)⟩
   ·intro _; rfl
theorem right_iff (xs : List Int) : wrongOf xs = 0 ↔ xs.length = 11 ∧ 0 ≤ xs.getD 0 0 ∧ xs.getD 0 0 ≤ 5 ∧ Okn (ofCells xs (xs.getD 0 0).toNat):=by
 unfold wrongOf
 by_cases h1 : xs.length ≠ 11
 ·rw [if_pos h1]
  constructor
  ·intro h; cases h
  ·intro h; exact absurd h.1 h1
 rw [if_neg h1]
 by_cases h2 : ¬ (0 ≤ xs.getD 0 0 ∧ xs.getD 0 0 ≤ 5)
 ·rw [if_pos h2]
  constructor
  ·intro h; cases h
  ·intro h; exact absurd ⟨h.2.1,h.2.2.1⟩ h2
 rw [if_neg h2,wrongIn_zero]
 have hx : 0 ≤ xs.getD 0 0 ∧ xs.getD 0 0 ≤ 5:=by simpa using h2
 constructor
 ·intro h
  refine ⟨by simpa using h1,hx.1,hx.2,okn_of (by rw [length_ofCells]; omega) (fun i hi=>?_) (fun i j hij hj=>?_)⟩
  ·rw [length_ofCells] at hi
   rw [ofCells_at _ _ _ hi]
   exact ((wrongAt_zero xs i).1 (h i (Nat.zero_le _) (by omega))).1
  ·rw [length_ofCells] at hj
   rw [ofCells_at _ _ _ hj,ofCells_at _ _ _ (by omega)]
   exact ((wrongAt_zero xs j).1 (h j (Nat.zero_le _) (by omega))).2 i hij
 ·rintro ⟨_,_,_,hok⟩ j _ hj
  have hjl : j < (xs.getD 0 0).toNat:=by omega
  rw [wrongAt_zero]
  have ha:=hok.at (i:=j) (by rw [length_ofCells]; exact hjl)
  rw [ofCells_at _ _ _ hjl] at ha
  refine ⟨ha,fun i hi e=>?_⟩
  have:=hok.uni (i:=i) (j:=j) (by rw [length_ofCells]; omega) (by rw [length_ofCells]; exact hjl) (by rw [ofCells_at _ _ _ hjl,ofCells_at _ _ _ (by omega)]; exact e)
  omega
theorem find_at1 (xs : List Int) (name : Int) (n : Nat) : findIn xs name n 0 = if at1 (ofCells xs n) name < n then (at1 (ofCells xs n) name : Int) else -1:=by
 have key : ∀ m i,i + m = n → (∀ j,j < i → xs.getD (1 + 2 * j) 0 ≠ name) → findIn xs name m i = if at1 (ofCells xs n) name < n then (at1 (ofCells xs n) name : Int) else -1:=by
  intro m
  induction m with
  | zero =>
   intro i hi hb
   have : at1 (ofCells xs n) name = (ofCells xs n).length:=at1_none (fun j hj=>by rw [length_ofCells] at hj; rw [ofCells_at _ _ _ hj]; exact hb j (by omega))
   rw [length_ofCells] at this
   rw [findIn,if_neg (by omega)]
  | succ m ih =>
   intro i hi hb
   rw [findIn]
   by_cases h : xs.getD (1 + 2 * i) 0 = name
   ·have : at1 (ofCells xs n) name = i:=at1_of (by rw [length_ofCells]; omega) (by rw [ofCells_at _ _ _ (by omega)]; exact h) (fun j hj=>by rw [ofCells_at _ _ _ (by omega)]; exact hb j hj)
    rw [if_pos h,this,if_pos (by omega)]
   ·rw [if_neg h]
    refine ih (i + 1) (by omega) (fun j hj=>?_)
    by_cases e : j = i
    ·rw [e]; exact h
    ·exact hb j (by omega)
 exact key n 0 (by omega) (fun j hj=>by omega)

/-! ### The writes of a call -/

/-- Cells whose names and numbers may be; names need not be unlike. -/
def Weak (xs : List Int) : Prop:=xs.length = 11 ∧ 0 ≤ xs.getD 0 0 ∧ xs.getD 0 0 ≤ 5 ∧ Okw (ofCells xs (xs.getD 0 0).toNat)
theorem Weak.c {xs : List Int} (h : Weak xs) : xs.length = 11 ∧ 0 ≤ xs.getD 0 0 ∧ xs.getD 0 0 ≤ 5:=⟨h.1,h.2.1,h.2.2.1⟩
theorem weak_of {xs : List Int} (h : wrongOf xs = 0) : Weak xs:=by
 obtain ⟨h1,h2,h3,h4⟩:=(right_iff xs).1 h
 exact ⟨h1,h2,h3,h4.w⟩

def planX (l : List (Int × Int)) (c : Cl) : List (Int × Int) :=
 if c.kind = 1 then
  if at1 l c.name < l.length then [(2 + 2 * (at1 l c.name : Int),c.n)] else [(1 + 2 * (l.length : Int),c.name),(2 + 2 * (l.length : Int),c.n),(0,(l.length : Int) + 1)]
 else if c.kind = 3 then
  if at1 l c.name + 1 < l.length then [(1 + 2 * (at1 l c.name : Int),(l.getD (l.length - 1) (0,0)).1),(2 + 2 * (at1 l c.name : Int),(l.getD (l.length - 1) (0,0)).2),(0,(l.length : Int) - 1)] else [(0,(l.length : Int) - 1)]
 else if c.kind = 4 then [(2 + 2 * (at1 l c.name : Int),num l (at1 l c.name) + c.n)]
 else if c.kind = 6 then [(2 + 2 * (at1 l c.name : Int),num l (at1 l c.other)),(2 + 2 * (at1 l c.other : Int),num l (at1 l c.name))]
 else []

def planCl (l : List (Int × Int)) (c : Cl) : List (Int × Int):=if (doCl l c).2.err ≠ 0 then [] else planX l c

theorem plan_len (l : List (Int × Int)) (c : Cl) : (planCl l c).length ≤ 3:=by
 unfold planCl planX
 repeat' split
 all_goals simp

/-- Cells of which number and names are known. -/
theorem cells_are {ds : List Int} {l : List (Int × Int)} (h0 : ds.getD 0 0 = (l.length : Int)) (hp : ∀ i,i < l.length → ds.getD (1 + 2 * i) 0 = (l.getD i (0,0)).1 ∧ ds.getD (1 + 2 * i + 1) 0 = (l.getD i (0,0)).2) : ofCells ds (ds.getD 0 0).toNat = l:=by
 rw [h0]
 refine ext_getD (by rw [length_ofCells]; omega) fun i hi=>?_
 rw [length_ofCells] at hi
 rw [ofCells_at _ _ _ hi]
 have:=hp i (by omega)
 exact Prod.ext this.1 this.2

/-- What cells are behind all the writes. -/
theorem plan_of {xs : List Int} {c : Cl} {l : List (Int × Int)} (hl : xs.length = 11) (x0 : 0 ≤ xs.getD 0 0) (hll : xs.getD 0 0 = (l.length : Int)) (hat : ∀ i,i < l.length → xs.getD (1 + 2 * i) 0 = (l.getD i (0,0)).1 ∧ xs.getD (1 + 2 * i + 1) 0 = (l.getD i (0,0)).2)
  (hok : Okn l) (hc : wrongCl c = 0) :
  (setAll xs (planCl l c)).getD 0 0 = ((doCl l c).1.length : Int) ∧ ∀ i,i < (doCl l c).1.length → (setAll xs (planCl l c)).getD (1 + 2 * i) 0 = ((doCl l c).1.getD i (0,0)).1 ∧ (setAll xs (planCl l c)).getD (1 + 2 * i + 1) 0 = ((doCl l c).1.getD i (0,0)).2:=by
 have h5:=hok.len
 have hset : ∀ W j,j < 11 → (setAll xs W).getD j 0 = lastAt W j (xs.getD j 0):=fun W j hj=>setAll_at xs W j (by omega)
 have hkk:=okn_do hok hc
 by_cases he : (doCl l c).2.err ≠ 0
 ·have e1 : planCl l c = []:=by unfold planCl; rw [if_pos he]
  have e2 : (doCl l c).1 = l:=by
   rcases hkk.2.1 with h | h
   ·exact absurd h he
   ·exact h.2
  rw [e1,e2]
  exact ⟨hll,hat⟩
 have he' : (doCl l c).2.err = 0:=by simpa using he
 rw [show planCl l c = planX l c from if_neg he]
 clear hkk
 unfold planX
 obtain ⟨k,a,o,n⟩:=c
 simp only
 have hk : k = 1 ∨ k = 2 ∨ k = 3 ∨ k = 4 ∨ k = 5 ∨ k = 6:=by
  unfold wrongCl at hc
  split at hc
  ·cases hc
  ·rename_i h; simp at h; omega
 rcases hk with rfl | rfl | rfl | rfl | rfl | rfl
 ·rw [if_pos rfl]
  have hd : doCl l ⟨1,a,o,n⟩ = if at1 l a < l.length then (put1 l (at1 l a) n,⟨0,num l (at1 l a)⟩) else if 5 ≤ l.length then (l,⟨9,0⟩) else (l ++ [(a,n)],⟨0,0⟩):=rfl
  by_cases ha : at1 l a < l.length
  ·rw [if_pos ha]
   rw [hd,if_pos ha]
   simp only [length_put1]
   refine ⟨?_,fun i hi=>?_⟩
   ·rw [hset _ _ (by omega)]
    simp only [lastAt,List.foldl]
    rw [if_neg (by omega)]; exact hll
   ·rw [hset _ _ (by omega),hset _ _ (by omega),fst_put1 _ _ _ _ ha,snd_put1 _ _ _ _ ha]
    simp only [lastAt,List.foldl]
    rw [if_neg (by omega)]
    refine ⟨(hat i hi).1,?_⟩
    by_cases e : at1 l a = i
    ·rw [if_pos (by omega),if_pos e]
    ·rw [if_neg (by omega),if_neg e]; exact (hat i hi).2
  ·rw [hd,if_neg ha] at he' ⊢
   rw [if_neg ha]
   by_cases hf : 5 ≤ l.length
   ·rw [if_pos hf] at he'; simp at he'
   rw [if_neg hf]
   simp only [List.length_append,List.length_cons,List.length_nil]
   refine ⟨?_,fun i hi=>?_⟩
   ·rw [hset _ _ (by omega)]
    simp only [lastAt,List.foldl]
    rw [if_pos (by omega)]; omega
   ·rw [hset _ _ (by omega),hset _ _ (by omega)]
    simp only [lastAt,List.foldl]
    by_cases e : i < l.length
    ·rw [if_neg (by omega),if_neg (by omega),if_neg (by omega),if_neg (by omega),if_neg (by omega),if_neg (by omega)]
     rw [List.getD_eq_getElem?_getD (l:=l ++ [(a,n)]),List.getElem?_append_left e,← List.getD_eq_getElem?_getD]
     exact hat i e
    ·have e2 : i = l.length:=by omega
     subst e2
     rw [if_neg (by omega),if_neg (by omega),if_pos (by omega),if_neg (by omega),if_pos (by omega)]
     simp
 ·rw [if_neg (by decide),if_neg (by decide),if_neg (by decide),if_neg (by decide)]
  have hd : (doCl l ⟨2,a,o,n⟩).1 = l:=by
   show (if ¬ at1 l a < l.length then (l,(⟨6,0⟩ : Rp)) else (l,⟨0,num l (at1 l a)⟩)).1 = l
   split <;> rfl
  rw [hd]
  exact ⟨hll,hat⟩
 ·rw [if_neg (by decide),if_pos rfl]
  have hd : doCl l ⟨3,a,o,n⟩ = if ¬ at1 l a < l.length then (l,⟨6,0⟩) else ((l.set (at1 l a) (l.getD (l.length - 1) (0,0))).take (l.length - 1),⟨0,num l (at1 l a)⟩):=rfl
  by_cases ha : at1 l a < l.length
  case neg=>rw [hd,if_pos ha] at he'; simp at he'
  rw [if_neg (by simpa using ha)] at hd
  rw [hd]
  simp only [length_dropped]
  have hpt : ∀ i,i < l.length - 1 → ((l.set (at1 l a) (l.getD (l.length - 1) (0,0))).take (l.length - 1)).getD i (0,0) = if at1 l a = i then l.getD (l.length - 1) (0,0) else l.getD i (0,0):=fun i hi=>getD_dropped l _ i ha hi
  by_cases hb : at1 l a + 1 < l.length
  ·rw [if_pos hb]
   refine ⟨?_,fun i hi=>?_⟩
   ·rw [hset _ _ (by omega)]
    simp only [lastAt,List.foldl]
    rw [if_pos (by omega)]; omega
   ·rw [hset _ _ (by omega),hset _ _ (by omega),hpt i hi]
    simp only [lastAt,List.foldl]
    by_cases e : at1 l a = i
    ·rw [if_pos e]
     constructor
     ·rw [if_neg (by omega),if_neg (by omega),if_pos (by omega)]
     ·rw [if_neg (by omega),if_pos (by omega)]
    ·rw [if_neg e]
     constructor
     ·rw [if_neg (by omega),if_neg (by omega),if_neg (by omega)]; exact (hat i (by omega)).1
     ·rw [if_neg (by omega),if_neg (by omega),if_neg (by omega)]; exact (hat i (by omega)).2
  ·rw [if_neg hb]
   refine ⟨?_,fun i hi=>?_⟩
   ·rw [hset _ _ (by omega)]
    simp only [lastAt,List.foldl]
    rw [if_pos (by omega)]; omega
   ·rw [hset _ _ (by omega),hset _ _ (by omega),hpt i hi,if_neg (by omega)]
    simp only [lastAt,List.foldl]
    rw [if_neg (by omega),if_neg (by omega)]
    exact hat i (by omega)
 ·rw [if_neg (by decide),if_neg (by decide),if_pos rfl]
  have hd : doCl l ⟨4,a,o,n⟩ = if ¬ at1 l a < l.length then (l,⟨6,0⟩) else if ¬ (-1073741824 ≤ num l (at1 l a) + n ∧ num l (at1 l a) + n ≤ 1073741824) then (l,⟨3,0⟩) else (put1 l (at1 l a) (num l (at1 l a) + n),⟨0,num l (at1 l a) + n⟩):=rfl
  by_cases ha : at1 l a < l.length
  case neg=>rw [hd,if_pos ha] at he'; simp at he'
  rw [hd,if_neg (by simpa using ha)] at he' ⊢
  by_cases hs : -1073741824 ≤ num l (at1 l a) + n ∧ num l (at1 l a) + n ≤ 1073741824
  case neg=>rw [if_pos hs] at he'; simp at he'
  rw [if_neg (by simpa using hs)]
  simp only [length_put1]
  refine ⟨?_,fun i hi=>?_⟩
  ·rw [hset _ _ (by omega)]
   simp only [lastAt,List.foldl]
   rw [if_neg (by omega)]; exact hll
  ·rw [hset _ _ (by omega),hset _ _ (by omega),fst_put1 _ _ _ _ ha,snd_put1 _ _ _ _ ha]
   simp only [lastAt,List.foldl]
   rw [if_neg (by omega)]
   refine ⟨(hat i hi).1,?_⟩
   by_cases e : at1 l a = i
   ·rw [if_pos (by omega),if_pos e]
   ·rw [if_neg (by omega),if_neg e]; exact (hat i hi).2
 ·rw [if_neg (by decide),if_neg (by decide),if_neg (by decide),if_neg (by decide)]
  exact ⟨hll,hat⟩
 ·rw [if_neg (by decide),if_neg (by decide),if_neg (by decide),if_pos rfl]
  have hd : doCl l ⟨6,a,o,n⟩ = if ¬ at1 l a < l.length then (l,⟨6,0⟩) else if ¬ at1 l o < l.length then (l,⟨6,0⟩)
   else (put1 (put1 l (at1 l a) (num l (at1 l o))) (at1 l o) (num l (at1 l a)),⟨0,num l (at1 l o)⟩):=rfl
  by_cases ha : at1 l a < l.length
  case neg=>rw [hd,if_pos ha] at he'; simp at he'
  rw [hd,if_neg (by simpa using ha)] at he' ⊢
  by_cases hb : at1 l o < l.length
  case neg=>rw [if_pos hb] at he'; simp at he'
  rw [if_neg (by simpa using hb)]
  have hb2 : at1 l o < (put1 l (at1 l a) (num l (at1 l o))).length:=by rw [length_put1]; exact hb
  simp only [length_put1]
  refine ⟨?_,fun i hi=>?_⟩
  ·rw [hset _ _ (by omega)]
   simp only [lastAt,List.foldl]
   rw [if_neg (by omega),if_neg (by omega)]; exact hll
  ·rw [hset _ _ (by omega),hset _ _ (by omega),fst_put1 _ _ _ _ hb2,fst_put1 _ _ _ _ ha,snd_put1 _ _ _ _ hb2,snd_put1 _ _ _ _ ha]
   simp only [lastAt,List.foldl]
   rw [if_neg (by omega),if_neg (by omega)]
   refine ⟨(hat i hi).1,?_⟩
   by_cases e : at1 l o = i
   ·rw [if_pos (by omega),if_pos e]
   ·rw [if_neg (by omega),if_neg e]
    by_cases e2 : at1 l a = i
    ·rw [if_pos (by omega),if_pos e2]
    ·rw [if_neg (by omega),if_neg e2]; exact (hat i hi).2

/-- Bit by bit as at once. -/
theorem plan_model {xs : List Int} {c : Cl} (hx : wrongOf xs = 0) (hc : wrongCl c = 0) :
  wrongOf (setAll xs (planCl (ofCells xs (xs.getD 0 0).toNat) c)) = 0 ∧
  ofCells (setAll xs (planCl (ofCells xs (xs.getD 0 0).toNat) c)) ((setAll xs (planCl (ofCells xs (xs.getD 0 0).toNat) c)).getD 0 0).toNat = (doCl (ofCells xs (xs.getD 0 0).toNat) c).1:=by
 obtain ⟨hl,x0,x5,hok⟩:=(right_iff xs).1 hx
 have hll : xs.getD 0 0 = ((ofCells xs (xs.getD 0 0).toNat).length : Int):=by rw [length_ofCells]; omega
 obtain ⟨h1,h2⟩:=plan_of (c:=c) hl x0 hll (fun i hi=>by rw [length_ofCells] at hi; rw [ofCells_at _ _ _ hi]; exact ⟨rfl,rfl⟩) hok hc
 have e:=cells_are h1 h2
 refine ⟨?_,e⟩
 have hd:=okn_do hok hc
 rw [right_iff,e]
 have:=hd.1.len
 exact ⟨by rw [length_setAll]; exact hl,by omega,by omega,hd.1⟩

end Go.Mk

namespace Go.Mk
open Go Go.RowKit

structure St where
 cells : List Int
 undo : List (Int × Int)
 answers : List An
 past : List Rq

theorem St.ext' {s t : St} (h1 : s.cells = t.cells) (h2 : s.undo = t.undo) (h3 : s.answers = t.answers) (h4 : s.past = t.past) : s = t:=by
 cases s; cases t; simp at *; exact ⟨h1,h2,h3,h4⟩

def newSt : St:=⟨List.replicate 11 0,[],[],[]⟩
def writeSt (s : St) (p : Int × Int) : St :=
 if 0 ≤ p.1 ∧ p.1 < (s.cells.length : Int) then { s with cells:=set1 s.cells p,undo:=(p.1,s.cells.getD p.1.toNat 0) :: s.undo } else s
def backSt (s : St) : St:={ s with cells:=setAll s.cells s.undo,undo:=[] }
def putAn : List An → An → List An
 | [],a=>[a]
 | x :: l,a=>if x.client = a.client then a :: l else x :: putAn l a
def commitSt (s : St) (r : Rq) (says : Rp) : St:=⟨s.cells,[],putAn s.answers ⟨r.client,r.token,says⟩,s.past ++ [r]⟩
def lastAn : List An → Int → An × Bool
 | [],_=>(zeroAn,false)
 | x :: l,c=>if x.client = c then (x,true) else lastAn l c
theorem last_put (l : List An) (a : An) : lastAn (putAn l a) a.client = (a,true):=by
 induction l with
 | nil=>simp [putAn,lastAn]
 | cons x l ih =>
  unfold putAn
  by_cases h : x.client = a.client
  ·rw [if_pos h]; simp [lastAn]
  ·rw [if_neg h,lastAn,if_neg h]; exact ih
theorem last_other (l : List An) (a : An) (c : Int) (hc : c ≠ a.client) : lastAn (putAn l a) c = lastAn l c:=by
 induction l with
 | nil=>simp [putAn,lastAn]; intro h; exact absurd h.symm hc
 | cons x l ih =>
  unfold putAn
  by_cases h : x.client = a.client
  ·rw [if_pos h,lastAn,lastAn,if_neg (fun e=>hc e.symm),if_neg (fun e=>hc (e.symm.trans h))]
  ·rw [if_neg h,lastAn,lastAn,ih]
theorem length_putAn (l : List An) (a : An) : (putAn l a).length ≤ l.length + 1:=by
 induction l with
 | nil=>simp [putAn]
 | cons x l ih =>
  unfold putAn
  split
  ·simp
  ·simp; omega

theorem last_mine (s : St) (r : Rq) (says : Rp) : lastAn (commitSt s r says).answers r.client = (⟨r.client,r.token,says⟩,true):=last_put s.answers ⟨r.client,r.token,says⟩

theorem set1_back (xs : List Int) (p : Int × Int) (h0 : 0 ≤ p.1) (h1 : p.1 < (xs.length : Int)) : set1 (set1 xs p) (p.1,xs.getD p.1.toNat 0) = xs:=by
 obtain ⟨i,hi⟩ : ∃ i : Nat,p.1 = (i : Int):=⟨p.1.toNat,by omega⟩
 have hl : i < xs.length:=by omega
 have hlen : (set1 xs p).length = xs.length:=by have:=length_setAll xs [p]; simpa [setAll] using this
 have hlen2 : (set1 (set1 xs p) (p.1,xs.getD p.1.toNat 0)).length = xs.length:=by have:=length_setAll (set1 xs p) [(p.1,xs.getD p.1.toNat 0)]; rw [hlen] at this; simpa [setAll] using this
 refine List.ext_getElem? fun j=>?_
 by_cases hj : j < xs.length
 ·have a1:=set1_at (set1 xs p) (p.1,xs.getD p.1.toNat 0) j (by omega)
  have a2:=set1_at xs p j hj
  rw [a2] at a1
  rw [List.getD_eq_getElem?_getD,List.getElem?_eq_getElem (by omega)] at a1
  rw [List.getElem?_eq_getElem (by omega),List.getElem?_eq_getElem hj]
  simp only [Option.getD_some] at a1
  rw [a1]
  congr 1
  by_cases hp : p.1 = (j : Int)
  ·rw [if_pos hp,hp]; simp [hj]
  ·rw [if_neg hp,if_neg hp]; simp [hj]
 ·rw [List.getElem?_eq_none (by omega),List.getElem?_eq_none (by omega)]

/-- All of it, or nothing. -/
theorem back_write (s : St) (p : Int × Int) : backSt (writeSt s p) = backSt s:=by
 unfold writeSt
 by_cases h : 0 ≤ p.1 ∧ p.1 < (s.cells.length : Int)
 ·rw [if_pos h]
  unfold backSt
  refine St.ext' ?_ rfl rfl rfl
  show setAll (set1 s.cells p) ((p.1,s.cells.getD p.1.toNat 0) :: s.undo) = setAll s.cells s.undo
  have : setAll (set1 s.cells p) ((p.1,s.cells.getD p.1.toNat 0) :: s.undo) = setAll (set1 (set1 s.cells p) (p.1,s.cells.getD p.1.toNat 0)) s.undo:=rfl
  rw [this,set1_back _ _ h.1 h.2]
 ·rw [if_neg h]
theorem length_write (s : St) (p : Int × Int) : (writeSt s p).cells.length = s.cells.length:=by
 unfold writeSt
 split
 ·show (set1 s.cells p).length = _
  have:=length_setAll s.cells [p]; simpa [setAll] using this
 ·rfl
end Go.Mk

namespace Go.Mk
open Go Go.RowKit

structure Sv where
 gen : Int
 box : List (List UInt8)
 busy : Bool
 now : Rq
 plan : List (Int × Int)
 says : Rp

structure Cn where
 calls : List Cl
 at_ : Int
 sent : Bool
 gen : Int
 box : List (List UInt8)
 got : List Rp

structure Mc where
 store : St
 server : Sv
 up : Bool
 pause : Int
 falls : Int
 clients : List Cn

def idleSv (gen : Int) (box : List (List UInt8)) : Sv:=⟨gen,box,false,zeroRq,[],⟨0,0⟩⟩

/-- Bytes come to a server. -/
def comeSv (v : Sv) (b : List UInt8) : Sv × Int:=if 3 ≤ v.box.length then (v,9) else ({ v with box:=v.box ++ [b] },0)

/-- The names that a store's cells have. -/
def namesOf (xs : List Int) : List (Int × Int):=ofCells xs (xs.getD 0 0).toNat

/-- A server goes on. -/
def serveM (s : St) (v : Sv) : St × Sv × List UInt8 × Int :=
 if v.busy then
  match v.plan with
  | p :: l=>(writeSt s p,{ v with plan:=l },[],0)
  | []=>(commitSt s v.now v.says,idleSv v.gen v.box,ansB ⟨v.now.client,v.now.token,v.says⟩,0)
 else
  match v.box with
  | []=>(s,v,[],12)
  | b :: l =>
   let v' : Sv:={ v with box:=l }
   if (readRq b).2 ≠ 0 then (s,v',[],0)
   else
    let r:=(readRq b).1
    let a:=lastAn s.answers r.client
    if a.2 ∧ r.token ≤ a.1.token then
     if a.1.token = r.token then (s,v',ansB a.1,0) else (s,v',[],0)
    else (s,{ v' with busy:=true,now:=r,plan:=planCl (namesOf s.cells) r.call,says:=(doCl (namesOf s.cells) r.call).2 },[],0)

def pauseOf (falls : Int) : Int:=if falls < 1 then 1 else if 3 < falls then 3 else falls

def fallM (m : Mc) : Mc × Int :=
 if ¬ m.up then (m,11) else if 6 ≤ m.falls then (m,5)
 else ({ m with falls:=m.falls + 1,up:=false,pause:=pauseOf (m.falls + 1),server:=idleSv m.server.gen [] },0)

def tickM (m : Mc) : Mc :=
 if m.up then m else if 1 < m.pause then { m with pause:=m.pause - 1 }
 else { m with up:=true,pause:=0,store:=backSt m.store,server:=idleSv (m.server.gen + 1) [] }

/-- A client goes on. -/
def goCn (c : Cn) (me gen : Int) (up : Bool) : Cn × List UInt8 × Int :=
 match c.box with
 | b :: l =>
  let c' : Cn:={ c with box:=l }
  let a:=readAn b
  if a.2 = 0 ∧ a.1.client = me ∧ a.1.token = c.at_ ∧ c.sent = true then ({ c' with got:=c.got ++ [a.1.reply],at_:=c.at_ + 1,sent:=false },[],0)
  else (c',[],0)
 | [] =>
  if (c.calls.length : Int) ≤ c.at_ then (c,[],11)
  else if ¬ up then (c,[],10)
  else if c.sent ∧ c.gen = gen then (c,[],12)
  else ({ c with sent:=true,gen:=gen },reqB ⟨me,c.at_,c.calls.getD c.at_.toNat ⟨0,0,0,0⟩⟩,0)

def comeCn (c : Cn) (b : List UInt8) : Cn:=if c.box.length < 3 then { c with box:=c.box ++ [b] } else c

def newCn (calls : List Cl) : Cn:=⟨calls,0,false,0,[],[]⟩
def newMc (l : List (List Cl)) : Mc:=⟨newSt,idleSv 0 [],true,0,0,l.map newCn⟩
def rightL (l : List (List Cl)) : Prop:=l.length ≤ 3 ∧ ∀ c ∈ l,c.length ≤ 8 ∧ ∀ x ∈ c,wrongCl x = 0

/-- A step. -/
def doM (m : Mc) (kind n : Int) : Mc × Int :=
 if kind = 1 then
  if n < 0 ∨ (m.clients.length : Int) ≤ n then (m,6)
  else
   let c:=goCn (m.clients.getD n.toNat (newCn [])) n m.server.gen m.up
   if c.2.2 ≠ 0 then (m,c.2.2)
   else if c.2.1 ≠ [] then
    let v:=comeSv m.server c.2.1
    if v.2 ≠ 0 then (m,v.2) else ({ m with server:=v.1,clients:=m.clients.set n.toNat c.1 },0)
   else ({ m with clients:=m.clients.set n.toNat c.1 },0)
 else if kind = 2 then
  if ¬ m.up then (m,10)
  else
   let x:=serveM m.store m.server
   if x.2.2.2 ≠ 0 then (m,x.2.2.2)
   else
    let m' : Mc:={ m with store:=x.1,server:=x.2.1 }
    if x.2.2.1 ≠ [] then
     let k:=(x.2.2.1.getD 1 0).toNat
     if k < m.clients.length then ({ m' with clients:=m.clients.set k (comeCn (m.clients.getD k (newCn [])) x.2.2.1) },0) else (m',0)
    else (m',0)
 else if kind = 3 then fallM m
 else if kind = 4 then (tickM m,0)
 else (m,1)

def playM (m : Mc) (steps : List (Int × Int)) : Mc:=steps.foldl (fun m s=>(doM m s.1 s.2).1) m

end Go.Mk

namespace Go.Mk
open Go Go.RowKit

def elCl : El Cl:=fun _ c x=>c = [I x.kind,I x.name,I x.other,I x.n]
def elAn : El An:=fun _ c x=>c = [I x.client,I x.token,I x.reply.err,I x.reply.n]
def elRq : El Rq:=fun _ c x=>c = [I x.client,I x.token,I x.call.kind,I x.call.name,I x.call.other,I x.call.n]
def elRp : El Rp:=fun _ c x=>c = [I x.err,I x.n]
def elBs : El (List UInt8):=fun w c x=>∃ v,c = [v] ∧ Bytes w v x
def elCls : El (List Cl):=fun w c x=>∃ v,c = [v] ∧ RowOf 4 elCl w v x

theorem monoCl : MonoR elCl:=fun _ _ _ _ _ h=>h
theorem monoAn : MonoR elAn:=fun _ _ _ _ _ h=>h
theorem monoRq : MonoR elRq:=fun _ _ _ _ _ h=>h
theorem monoBs : MonoR elBs:=fun _ _ _ _ he ⟨v,e,h⟩=>⟨v,e,h.ext he⟩
theorem monoCls' : MonoR elCls:=fun _ _ _ _ he ⟨v,e,h⟩=>⟨v,e,h.ext monoCl he⟩

theorem ones_of {l : List Value} (h : l.all (fun u=>u.oneCell') = true) : ∀ u ∈ l,u.oneCell' = true:=fun u hu=>List.all_eq_true.1 h u hu
theorem row_one {w : World} {size n : Nat} {v : Value} {cs : List Value} (h : Row w size v n cs) : v.oneCell' = true:=by
 obtain ⟨_,ao,cap,rfl,_⟩:=h
 rfl
theorem rowOf_one {X : Type} {R : El X} {w : World} {size : Nat} {v : Value} {xs : List X} (h : RowOf size R w v xs) : v.oneCell' = true:=by
 obtain ⟨_,_,h⟩:=h
 exact row_one h
theorem oneBs : OneR elBs:=fun _ _ _ ⟨v,e,h⟩ u hu=>by
 rw [e] at hu
 simp at hu
 rw [hu]
 exact row_one h
/-- A client's cells. -/
def elCn : El Cn:=fun w c x=>∃ calls box got,c = [calls,I x.at_,.bool x.sent,I x.gen,box,got] ∧ RowOf 4 elCl w calls x.calls ∧ RowOf 1 elBs w box x.box ∧ RowOf 2 elRp w got x.got
theorem oneCn : OneR elCn:=fun _ _ _ ⟨a,b,d,e,h1,h2,h3⟩ u hu=>by
 rw [e] at hu
 simp at hu
 rcases hu with rfl | rfl | rfl | rfl | rfl | rfl
 ·exact rowOf_one h1
 ·rfl
 ·rfl
 ·rfl
 ·exact rowOf_one h2
 ·exact rowOf_one h3

/-- A store's cells. -/
def elSt : El St:=fun w c x=>∃ a b d e,c = [a,b,d,e] ∧ Ints w a x.cells ∧ Writes w b x.undo ∧ RowOf 4 elAn w d x.answers ∧ RowOf 6 elRq w e x.past
theorem monoSt : MonoR elSt:=fun _ _ _ _ he ⟨a,b,d,e,h,h1,h2,h3,h4⟩=>⟨a,b,d,e,h,h1.ext he,h2.ext he,h3.ext monoAn he,h4.ext monoRq he⟩

/-- A server's cells. -/
def elSv : El Sv:=fun w c x=>∃ box plan,c = [I x.gen,box,.bool x.busy,I x.now.client,I x.now.token,I x.now.call.kind,I x.now.call.name,I x.now.call.other,I x.now.call.n,plan,I x.says.err,I x.says.n] ∧
 RowOf 1 elBs w box x.box ∧ Writes w plan x.plan
/-- A machine's cells. -/
def elMc : El Mc:=fun w c x=>∃ s v cl,c = s ++ v ++ [.bool x.up,I x.pause,I x.falls,cl] ∧ elSt w s x.store ∧ elSv w v x.server ∧ RowOf 6 elCn w cl x.clients
/-- Where an element's cells are a function of it. -/
theorem rowOf_flat {X : Type} {f : X → List Value} {size : Nat} {w : World} {v : Value} {xs : List X} (hf : ∀ x,(f x).length = size) : RowOf size (fun _ c x=>c = f x) w v xs ↔ Row w size v xs.length (xs.flatMap f):=by
 constructor
 ·rintro ⟨css,he,hr⟩
  rw [flat_of (f:=f) he.1 (fun i c x hc hx=>(he.2 i c x hc hx).2)] at hr
  exact hr
 ·intro h
  refine ⟨xs.map f,⟨by simp,fun i c x hc hx=>?_⟩,?_⟩
  ·rw [List.getElem?_map,hx] at hc
   simp at hc
   subst hc
   exact ⟨hf x,rfl⟩
  ·rw [← List.flatMap_def]
   exact h
theorem rowOf_reqs {w : World} {v : Value} {l : List Rq} : RowOf 6 elRq w v l ↔ Reqs w v l:=rowOf_flat (f:=fun (r : Rq)=>[I r.client,I r.token,I r.call.kind,I r.call.name,I r.call.other,I r.call.n]) (fun _=>rfl)

end Go.Mk

namespace Go.Mk
open Go Go.RowKit

/-- A fact about the heap alone, that stays while it grows. -/
def HeapP (φ : World → Prop) : Prop:=∀ w w',(∀ k,k < w.heap.size → w'.heap[k]? = w.heap[k]?) → φ w → φ w'
def HeapR {X : Type} (R : El X) : Prop:=∀ w w' c x,(∀ k,k < w.heap.size → w'.heap[k]? = w.heap[k]?) → R w c x → R w' c x

/-- The fact φ, as long as the blocks A stay. -/
def Rd (A : Nat → Prop) (φ : World → Prop) (w : World) : Prop:=∀ w' : World,(∀ k,A k → k < w.heap.size → w'.heap[k]? = w.heap[k]?) → φ w'

theorem Rd.out {A : Nat → Prop} {φ : World → Prop} {w : World} (h : Rd A φ w) : φ w:=h w (fun _ _ _=>rfl)
theorem Rd.ext {A : Nat → Prop} {φ : World → Prop} {w w' : World} (h : Rd A φ w) (he : Ext w w') : Rd A φ w':=fun w2 h2=>h w2 (fun k ha hk=>by
 rw [h2 k ha (Nat.lt_of_lt_of_le hk he.size)]
 exact he.block k hk)
theorem Rd.mono (A : Nat → Prop) (φ : World → Prop) : MonoP (Rd A φ):=fun _ _ he h=>h.ext he
theorem Rd.grown {A : Nat → Prop} {φ : World → Prop} {w w' : World} {row : Option Nat} (h : Rd A φ w) (hg : w.grownBy w' row) (hr : ∀ b,row = some b → ¬ A b) : Rd A φ w':=fun w2 h2=>h w2 (fun k ha hk=>by
 rw [h2 k ha (Nat.lt_of_lt_of_le hk hg.size)]
 exact hg.block k hk (fun e=>hr k e.symm ha))
theorem Rd.set {A : Nat → Prop} {φ : World → Prop} {w : World} (h : Rd A φ w) {b : Nat} (hb : ¬ A b) (i : Nat) (x : Value) : Rd A φ (w.setCell ⟨b,i,none⟩ x):=fun w2 h2=>h w2 (fun k ha hk=>by
 rw [h2 k ha (by simpa using hk)]
 exact Below.heap_setCell w _ x k (fun e=>hb (by have e : k = b:=e; rw [← e]; exact ha)))
theorem Rd.imp {A : Nat → Prop} {φ ψ : World → Prop} {w : World} (h : Rd A φ w) (hi : ∀ w',φ w' → ψ w') : Rd A ψ w:=fun w2 h2=>hi w2 (h w2 h2)
theorem Rd.and {A : Nat → Prop} {φ ψ : World → Prop} {w : World} (h : Rd A φ w) (k : Rd A ψ w) : Rd A (fun w=>φ w ∧ ψ w) w:=fun w2 h2=>⟨h w2 h2,k w2 h2⟩
theorem Rd.left {A : Nat → Prop} {φ ψ : World → Prop} {w : World} (h : Rd A (fun w=>φ w ∧ ψ w) w) : Rd A φ w:=h.imp fun _ h=>h.1
theorem Rd.right {A : Nat → Prop} {φ ψ : World → Prop} {w : World} (h : Rd A (fun w=>φ w ∧ ψ w) w) : Rd A ψ w:=h.imp fun _ h=>h.2
theorem Rd.widen {A B : Nat → Prop} {φ : World → Prop} {w : World} (h : Rd A φ w) (hi : ∀ k,k < w.heap.size → A k → B k) : Rd B φ w:=fun w2 h2=>h w2 (fun k ha hk=>h2 k (hi k hk ha) hk)
theorem Rd.of {φ : World → Prop} (hp : HeapP φ) {w : World} (h : φ w) : Rd (fun k=>k < w.heap.size) φ w:=fun w2 h2=>hp w w2 (fun k hk=>h2 k hk hk) h
theorem Rd.all {A : Nat → Prop} {φ : World → Prop} {w : World} (h : ∀ w,φ w) : Rd A φ w:=fun w2 _=>h w2

theorem Row.heap {w w' : World} {size : Nat} {v : Value} {n : Nat} {cs : List Value} (h : Row w size v n cs) (hk : ∀ (j : Nat) (u : Value) (b off : Nat),cs[j]? = some u → (∃ m cap,v = .slice (some ⟨b,off,none⟩) m cap) → w'.heap[b]? = w.heap[b]?) : Row w' size v n cs:=by
 obtain ⟨h1,ao,cap,h2,h3,h4,h0,h5⟩:=h
 refine ⟨h1,ao,cap,h2,h3,h4,h0,fun j u hj=>?_⟩
 obtain ⟨b,off,e,hc⟩:=h5 j u hj
 refine ⟨b,off,e,?_⟩
 have:=hk j u b off hj ⟨_,_,by rw [h2,e]⟩
 simp only [World.cell?,this] at hc ⊢
 exact hc
theorem row_heap (size : Nat) (v : Value) (n : Nat) (cs : List Value) : HeapP (fun w=>Row w size v n cs):=fun w w' hk h=>by
 obtain ⟨h1,ao,cap,h2,h3,h4,h0,h5⟩:=h
 refine ⟨h1,ao,cap,h2,h3,h4,h0,fun j u hj=>?_⟩
 obtain ⟨b,off,e,hc⟩:=h5 j u hj
 refine ⟨b,off,e,?_⟩
 have hb : b < w.heap.size:=by
  by_cases hb : b < w.heap.size
  ·exact hb
  ·simp [World.cell?,Array.getElem?_eq_none (Nat.le_of_not_lt hb)] at hc
 simp only [World.cell?,hk b hb] at hc ⊢
 exact hc
theorem rowOf_heap {X : Type} {size : Nat} {R : El X} (hR : HeapR R) (v : Value) (xs : List X) : HeapP (fun w=>RowOf size R w v xs):=fun _ _ hk ⟨css,he,hr⟩ =>
 ⟨css,⟨he.1,fun i c x hc hx=>⟨(he.2 i c x hc hx).1,hR _ _ _ _ hk (he.2 i c x hc hx).2⟩⟩,row_heap _ _ _ _ _ _ hk hr⟩

theorem heapCl : HeapR elCl:=fun _ _ _ _ _ h=>h
theorem heapCls : HeapR elCls:=fun _ _ _ _ hk ⟨v,e,h⟩=>⟨v,e,rowOf_heap heapCl _ _ _ _ hk h⟩
/-- A slice in memory of its own. -/
theorem rd_owns {base e size n : Nat} {v : Value} {cs : List Value} {w : World} (h : w.ownsRow base e size v n cs) : Rd (fun k=>base ≤ k) (fun w=>Row w size v n cs) w:=fun w2 h2=>by
 refine Row.heap (Row.of_owns h) (fun j u b off hj ⟨m,cap,e⟩=>?_)
 rcases h.2 with ⟨rfl,_⟩ | ⟨g,cap',cur,rfl,hb,hg,_⟩
 ·cases e
 ·simp at e
  obtain ⟨⟨rfl,_⟩,_⟩:=e
  exact h2 g hb (Array.getElem?_eq_some_iff.1 hg).1
theorem rd_ints {base e n : Nat} {v : Value} {xs : List Int} {w : World} (h : w.ownsRow base e 1 v n (xs.map I)) : Rd (fun k=>base ≤ k) (fun w=>Ints w v xs) w:=by
 have hl : xs.length = n:=by simpa using h.1
 subst hl
 exact rd_owns h
theorem rd_writes {base e n : Nat} {v : Value} {l : List (Int × Int)} {w : World} (h : w.ownsRow base e 2 v n (cells2 l)) : Rd (fun k=>base ≤ k) (fun w=>Writes w v l) w:=by
 have hl : l.length = n:=by have:=h.1; rw [length_cells2] at this; omega
 subst hl
 exact rd_owns h

/-- What a call hands back, and which memory that is: what A was, or new. -/
def Keeps (P : Program) (f : FuncId) (args : Array Value) (w : World) (A : Nat → Prop) (T : Value → World → Prop) : Prop :=
 Calls P f args w fun e w'=>∃ r,e = .returned r ∧ Ext w w' ∧ Rd (fun k=>A k ∨ w.heap.size ≤ k) (T r) w'

theorem Keeps.to {P : Program} {f : FuncId} {args : Array Value} {w : World} {A : Nat → Prop} {T : Value → World → Prop} {Q : Ending → World → Prop} (h : Keeps P f args w A T) (k : ∀ r w',Ext w w' → Rd (fun k=>A k ∨ w.heap.size ≤ k) (T r) w' → Q (.returned r) w') : Calls P f args w Q :=
 Calls.mono h fun e w' ⟨r,he,hx,ht⟩=>by rw [he]; exact k r w' hx ht
theorem Keeps.gives {P : Program} {f : FuncId} {args : Array Value} {w : World} {A : Nat → Prop} {T : Value → World → Prop} (h : Keeps P f args w A T) : Gives P f args w T :=
 Calls.mono h fun _ _ ⟨r,he,hx,ht⟩=>⟨r,he,hx,ht.out⟩

/-- A struct's value, by its cells. -/
def Agg {X : Type} (R : El X) (x : X) (v : Value) (w : World) : Prop:=∃ cs : List Value,v = .agg cs.toArray ∧ R w cs x
theorem rd_agg {X : Type} {R : El X} {x : X} {v : Value} {A : Nat → Prop} {w : World} (h : Rd A (Agg R x v) w) : ∃ cs : List Value,v = .agg cs.toArray ∧ Rd A (fun w=>R w cs x) w:=by
 obtain ⟨cs,e,_⟩:=h.out
 refine ⟨cs,e,fun w2 h2=>?_⟩
 obtain ⟨cs2,e2,h3⟩:=h w2 h2
 rw [e] at e2
 have : cs = cs2:=by simpa using e2
 rw [this]
 exact h3
theorem agg_rd {X : Type} {R : El X} {x : X} {cs : List Value} {A : Nat → Prop} {w : World} (h : Rd A (fun w=>R w cs x) w) : Rd A (Agg R x (.agg cs.toArray)) w:=h.imp fun _ h=>⟨cs,rfl,h⟩
theorem st_iff {w : World} {a b d e : Value} {s : St} : elSt w [a,b,d,e] s ↔ Ints w a s.cells ∧ Writes w b s.undo ∧ RowOf 4 elAn w d s.answers ∧ RowOf 6 elRq w e s.past:=by
 constructor
 ·rintro ⟨a',b',d',e',h,h1,h2,h3,h4⟩
  simp at h
  obtain ⟨rfl,rfl,rfl,rfl⟩:=h
  exact ⟨h1,h2,h3,h4⟩
 ·rintro ⟨h1,h2,h3,h4⟩
  exact ⟨a,b,d,e,rfl,h1,h2,h3,h4⟩
theorem rd_st {A : Nat → Prop} {w : World} {cs : List Value} {s : St} (h : Rd A (fun w=>elSt w cs s) w) : ∃ a b d e,cs = [a,b,d,e] ∧ Rd A (fun w=>Ints w a s.cells) w ∧ Rd A (fun w=>Writes w b s.undo) w ∧ Rd A (fun w=>RowOf 4 elAn w d s.answers) w ∧ Rd A (fun w=>RowOf 6 elRq w e s.past) w:=by
 obtain ⟨a,b,d,e,rfl,_⟩:=h.out
 have h2:=h.imp fun _ h=>st_iff.1 h
 exact ⟨a,b,d,e,rfl,h2.left,h2.right.left,h2.right.right.left,h2.right.right.right⟩
theorem st_rd {A : Nat → Prop} {w : World} {a b d e : Value} {s : St} (h1 : Rd A (fun w=>Ints w a s.cells) w) (h2 : Rd A (fun w=>Writes w b s.undo) w) (h3 : Rd A (fun w=>RowOf 4 elAn w d s.answers) w) (h4 : Rd A (fun w=>RowOf 6 elRq w e s.past) w) : Rd A (fun w=>elSt w [a,b,d,e] s) w :=
 (h1.and (h2.and (h3.and h4))).imp fun _ h=>st_iff.2 h

/-- All memory that A names and that was there, and all that is new but for n boxes. -/
theorem away (A : Nat → Prop) (s n : Nat) : ∃ B : Nat → Prop,(∀ k,k < s → A k → B k) ∧ (∀ k,s + n ≤ k → B k) ∧ (∀ k,s ≤ k → k < s + n → ¬ B k) ∧ ∀ k,B k → A k ∨ s ≤ k :=
 ⟨fun k=>(A k ∧ k < s) ∨ s + n ≤ k,fun k h1 h2=>.inl ⟨h2,h1⟩,fun _ h=>.inr h,fun k h1 h2 h=>by rcases h with ⟨_,h⟩ | h <;> omega,fun k h=>by rcases h with ⟨h,_⟩ | h; exact .inl h; exact .inr (by omega)⟩
theorem row_slice {w : World} {size n : Nat} {v : Value} {cs : List Value} (h : Row w size v n cs) : ∃ ao cap,v = .slice ao n cap:=by
 obtain ⟨_,ao,cap,e,_⟩:=h
 exact ⟨ao,cap,e⟩
theorem rowOf_slice {X : Type} {R : El X} {w : World} {size : Nat} {v : Value} {xs : List X} (h : RowOf size R w v xs) : ∃ ao cap,v = .slice ao xs.length cap:=by
 obtain ⟨_,_,h⟩:=h
 exact row_slice h

end Go.Mk

namespace Go.Mk
open Go Go.RowKit Go.ChangeShapes Go.WideShapes

section
variable {P : Program} {H : Type} {enc : TypeId × Value → H} {W : World} {X : Type}

theorem trod_row {t e : TypeId} {sz : Nat} (hsz : 0 < sz) (R : El X) (ht : P.underlying t = some (.slice e)) (hc : P.cellsOf e = sz)
  (hR : ∀ fuel cs z,DataW.trod enc P W 0 (fun _=>true) true fuel e cs = some z → cs.length = sz → ∃ x,R W cs x) {fuel : Nat} {v : Value} {z : DataW H × List MemPlace} (hz : DataW.trod enc P W 0 (fun _=>true) true fuel t [v] = some z) : ∃ xs : List X,RowOf sz R W v xs:=by
 obtain ⟨d,p⟩:=z
 obtain ⟨xs,css,hr,hl,hq,-⟩:=read_slice (X:=X) hsz (fun cs x=>R W cs x) ht hc hR rfl hz
 exact ⟨xs,css,⟨hl,hq⟩,hr⟩

end
end Go.Mk

namespace Go.Mk
open Go Go.RowKit Go.ChangeShapes Go.WideShapes

section
variable {P : Program} {H : Type} {enc : TypeId × Value → H} {W : World}

theorem read_callss {t e e2 : TypeId} {f0 f1 f2 f3 : Field} {v : Value} {d : DataW H} {p : List MemPlace} (ht : P.underlying t = some (.slice e)) (hu : P.underlying e = some (.slice e2)) (h1 : P.cellsOf e = 1) (he : P.underlying e2 = some (.struct #[f0,f1,f2,f3])) (hc : P.cellsOf e2 = 4)
  (t0 : P.underlying f0.type = some (.int .i64)) (t1 : P.underlying f1.type = some (.int .i64)) (t2 : P.underlying f2.type = some (.int .i64)) (t3 : P.underlying f3.type = some (.int .i64))
  (o0 : f0.offset = 0) (o1 : f1.offset = 1) (o2 : f2.offset = 2) (o3 : f3.offset = 3) (c0 : P.cellsOf f0.type = 1) (c1 : P.cellsOf f1.type = 1) (c2 : P.cellsOf f2.type = 1) (c3 : P.cellsOf f3.type = 1)
  {b0 : Nat} (hv : Value.okWide P W .any b0 t v) (h : DataW.Trod enc P W 0 (fun _=>true) true t v d p) : ∃ l : List (List Cl),RowOf 1 elCls W v l:=by
 obtain ⟨a0,len,cap,rfl⟩:=okWide_slice ht hv
 obtain ⟨fuel,hf⟩:=h
 refine trod_row (X:=List Cl) (by decide) elCls ht h1 (fun fuel cs z hz hl=>?_) hf
 match cs,hl with
 | [u],_ =>
  obtain ⟨xs,hx⟩:=trod_row (X:=Cl) (by decide) elCl hu hc (fun fuel cs z hz _=>trod_call he hc t0 t1 t2 t3 o0 o1 o2 o3 c0 c1 c2 c3 hz) hz
  exact ⟨xs,u,rfl,hx⟩

end
end Go.Mk

namespace Go.Mk
open Go Go.RowKit

/-- A slice in memory of its own that has no room more. -/
def FullOf (base e size n : Nat) (cs : List Value) (v : Value) (w : World) : Prop:=∃ g,v = .slice (some ⟨g,0,none⟩) n n ∧ w.ownsRow base e size v n cs
theorem monoFull (base e size n : Nat) (cs : List Value) : ∀ v,MonoP (FullOf base e size n cs v):=fun _ _ _ he ⟨g,e,h⟩=>⟨g,e,owns_ext h he⟩
theorem full_lit {w : World} {base e size : Nat} (cs : Array Value) (n : Nat) (hb : base ≤ w.heap.size) (hm : n ≤ maxLen) (hc : cs.size = n * size) : FullOf base e size n cs.toList (.slice (some ⟨w.heap.size,0,none⟩) n n) (w.alloc (.cells cs e)) :=
 ⟨_,rfl,World.ownsRow_lit (base:=base) (e:=e) (size:=size) w cs n hb hm hc⟩

theorem run_append_full {P : Program} (w : World) (base : Nat) (t ty e : TypeId) (i : TypeInfo) (z : Value) (size bytes : Nat) (ht : P.underlying t = some (.slice e)) (hi : P.info? e = some i) (hz : i.zero = some z)
  (hsize : i.size = size) (hby : i.bytes = bytes) (hzs : z.cells.size = size) (hsz : 0 < size)
  (v : Value) (n : Nat) (xs : List Value) (hown : FullOf base e size n xs v w) (u : Value) (m : Nat) (news : List Value) (hu : Row w size u m news) (h1 : ∀ u ∈ news,u.oneCell' = true)
  (hbytes : (n + m) * bytes ≤ 140737488355328) (hpos : 0 < bytes) (hbase : base ≤ w.heap.size) :
  ∃ v' w',(Builtin.append_ #[t,t] ty #[v,u]).run P w = .ok v' w' ∧ w'.ownsRow base e size v' (n + m) (xs ++ news) ∧ Ext w w':=by
 obtain ⟨g,rfl,hown⟩:=hown
 have h63 : n + m ≤ maxLen:=by
  have : n + m ≤ (n + m) * bytes:=Nat.le_mul_of_pos_right _ hpos
  unfold maxLen
  omega
 obtain ⟨hl,ao,cap,rfl,hc,hm,h0,hcell⟩:=hu
 by_cases hm0 : m = 0
 ·subst hm0
  have hn : news = []:=List.eq_nil_of_length_eq_zero (by simpa using hl)
  subst hn
  cases ao with
  | none =>
   have hcap:=h0 rfl
   subst hcap
   exact ⟨_,w,run_append_owned_none w base t ty e i size ht hi _ n xs hown,by simpa using hown,Ext.refl _⟩
  | some ad =>
   rcases hown.2 with ⟨e',_⟩ | ⟨g',cap',cur,e',hbg,hg,hnc,hcm,hcs,htake⟩
   ·cases e'
   ·simp at e'
    obtain ⟨rfl,rfl⟩:=e'
    subst hsize
    have hr:=run_append_room (P:=P) w t ty e i ht hi g n n cur hg ad 0 cap [] (by simp) (fun j u hj=>by simp at hj) (by simp) (by omega) (by simp; rw [hcs]; exact Nat.le_refl _)
    refine ⟨_,_,hr,?_,?_⟩
    ·have hsame : (w.setRow g (cur.toList.take (n * i.size) ++ [] ++ cur.toList.drop (n * i.size + ([] : List Value).length)).toArray).heap[g]? = some (.cells cur e):=by
      rw [setRow_heap w g cur _ e _ hg]
      simp
     refine ⟨by simp [hown.1],.inr ⟨g,n,cur,rfl,hbg,hsame,by omega,hcm,hcs,by simpa using htake⟩⟩
    ·refine ⟨rfl,rfl,rfl,by simp [World.setRow],fun k hk=>?_⟩
     by_cases hkg : k = g
     ·subst hkg
      rw [setRow_heap w k cur _ e _ hg,hg]
      simp
     ·exact setRow_other w g k _ hkg
 ·cases ao with
  | none=>have:=h0 rfl; omega
  | some ad =>
   obtain ⟨v',w',hrun,r1,r2⟩:=run_append_arg_grows (P:=P) w t ty e i z size bytes ht hi hz hsize hby hzs hsz ⟨g,0,none⟩ n n xs hown.1 (hown.cells (g:=g) rfl) ad m cap news hl (fun j u hj=>by
    obtain ⟨b,off,e',hc'⟩:=hcell j u hj
    simp only [Option.some.injEq] at e'
    subst e'
    rw [add_plain]; exact hc') (by omega) h63 hbytes
   refine ⟨v',w',hrun,?_,⟨r2.os,r2.tape,r2.output,r2.size,fun k hk=>r2.block k hk (by simp)⟩⟩
   obtain ⟨q1,q2⟩:=r1
   refine ⟨q1,?_⟩
   rcases q2 with h | ⟨g',cap',cur,rfl,hb,hr⟩
   ·exact .inl h
   ·exact .inr ⟨g',cap',cur,rfl,Nat.le_trans hbase hb,hr⟩

theorem makes_append {P : Program} {o : Oper} {a : Act} {w w' : World} {T : Value → World → Prop} {s x : Operand} {t : TypeId} {v u v' : Value}
  (ho : o.op = .call { callee:=.builtin .append,args:=#[s,x],argTypes:=#[t,t] }) (hs : a.eval s = v) (hx : a.eval x = u) (hrun : (Builtin.append_ #[t,t] o.type #[v,u]).run P w = .ok v' w') (he : Ext w w') (hT : T v' w') : makes P o a w T:=by
 have : (execOp a.eval o).run P w = .ok (.value v') w':=by simp [execOp,ho,resolve,invoke,builtin,hs,hx,hrun,Result.andThen]
 unfold makes
 rw [this]
 exact ⟨he,hT⟩

theorem run_append_op {P : Program} {o : Oper} {a : Act} {w w' : World} {s x : Operand} {t : TypeId} {v u v' : Value}
  (ho : o.op = .call { callee:=.builtin .append,args:=#[s,x],argTypes:=#[t,t] }) (hs : a.eval s = v) (hx : a.eval x = u) (hrun : (Builtin.append_ #[t,t] o.type #[v,u]).run P w = .ok v' w') : (execOp a.eval o).run P w = .ok (.value v') w':=by
 simp [execOp,ho,resolve,invoke,builtin,hs,hx,hrun,Result.andThen]

end Go.Mk

namespace Go.Mk
open Go Go.RowKit

/-- Must operation i come ahead of j? -/
def ancB (ops : Array Oper) : Nat → Nat → Nat → Bool
 | 0,_,_=>false
 | f + 1,j,i=>match ops[j]? with
  | some oj=>oj.after.any fun e=>Region.binds .any e && (e.on == i || ancB ops f e.on i)
  | none=>false

section
variable (P : Program) (w0 : World) (ops : Array Oper) (kd : Nat → Kind) (x : Nat) (Tx : Value → World → Prop)

def okW (o : Oper) (a : Act) (F : Fm) : Prop:=∀ w,Ext w0 w → knows F ops o w → ∃ v w',(execOp a.eval o).run P w = .ok (.value v) w' ∧ Ext w0 w' ∧ Tx v w'
def dropTo (d : Option Tmp) (φ : World → Prop) : Fm:=fun t w=>if d = some t then φ w else True
def opW (i : Nat) (K : Act → Fm → Prop) (a : Act) (F : Fm) : Prop :=
 if i = x then ∃ o,ops[x]? = some o ∧ o.guard = none ∧ okW P w0 ops Tx o a F ∧ ∀ v,K (a.put o.dst v) (dropTo o.dst (Tx v)) else opM P w0 ops kd i K a F

def headW (n : Nat) (L : Array Bool → Act → Fm → Prop) : Nat → Array Bool → Act → Fm → Prop
 | 0,listed,a,F=>L listed a F
 | f + 1,listed,a,F =>
  Region.ready .any ops listed ≠ [] ∧ ∀ i ∈ Region.ready .any ops listed,i < n ∧ opW P w0 ops kd x Tx i (headW n L f (listed.setIfInBounds i true)) a F
end

section
variable {P : Program} {w0 : World} {ops : Array Oper} {kd : Nat → Kind} {x : Nat} {Tx : Value → World → Prop}

theorem anc_listed {n : Nat} {listed : Array Bool} (inv : HeadInv .any ops n listed) : ∀ (f j i : Nat),(∀ oj,ops[j]? = some oj → ∀ e ∈ oj.after,Region.binds .any e = true → listed.getD e.on false = true) → ancB ops f j i = true → listed.getD i false = true
 | 0,_,_,_,h=>by cases h
 | f + 1,j,i,hall,h=>by
  unfold ancB at h
  split at h
  ·rename_i oj hoj
   obtain ⟨e,he,hb⟩:=Array.any_eq_true'.1 h
   simp only [Bool.and_eq_true,Bool.or_eq_true,beq_iff_eq] at hb
   have h1:=hall oj hoj e he hb.1
   rcases hb.2 with h2 | h2
   ·rw [← h2]; exact h1
   ·exact anc_listed inv f e.on i (fun ok hok e2 he2 hb2=>inv.closed e.on ok hok h1 e2 he2 hb2) h2
  ·cases h

theorem dropTo_upd {d d2 : Option Tmp} {φ : World → Prop} (h : ∀ t,d = some t → d2 ≠ some t) : upd (dropTo d φ) d2 (fun _=>True) = dropTo d φ:=by
 funext t w
 unfold upd dropTo
 by_cases h2 : d2 = some t
 ·rw [if_pos h2,if_neg (fun e=>h t e h2)]
 ·rw [if_neg h2]

theorem okW_put {o : Oper} {a : Act} {F : Fm} {d : Option Tmp} {v : Value} {φ : World → Prop} (hs : ∀ cs b,o.op ≠ .select cs b) (h : ∀ t,d = some t → t ∉ o.looksAt ops) (hk : okW P w0 ops Tx o (a.put d v) (upd F d φ)) : okW P w0 ops Tx o a F:=by
 have he:=execOp_put (ops:=ops) o hs a d v h
 have hkn:=knows_upd (ops:=ops) (F:=F) (φ:=φ) h
 intro w hw hkw
 have:=hk w hw (by rw [hkn]; exact hkw)
 rw [he] at this
 exact this

theorem OkO_free {o : Oper} {a : Act} {F F' : Fm} (h : OkO P w0 ops none o a F) : OkO P w0 ops none o a F':=h
theorem ValO_true {o : Oper} {a : Act} {v : Value} {φ : World → Prop} (h : ValO P w0 ops none o a v φ) : φ = fun _=>True:=by
 rcases h with ⟨_,_,h⟩ | ⟨_,_,h⟩ <;> exact h

theorem headW_first {n i : Nat} {oi : Oper} {L : Array Bool → Act → Fm → Prop} (hi : ops[i]? = some oi) (hsel : ∀ (j : Nat) (o : Oper) cs b,ops[j]? = some o → o.op ≠ .select cs b)
  (hs : Region.sinkB .any ops n = true) (hc : Region.chainB .any ops n = true) (hn : n < ops.size) (hin : i < n) (hix : i ≠ x) (hpure : kd i = none ∨ ancB ops ops.size x i = true)
  (hdone : ∀ listed a F,L listed a F → ∀ j ∈ Region.ready .any ops listed,n ≤ j) :
  ∀ (f : Nat) (listed : Array Bool) (a : Act) (F : Fm),HeadInv .any ops n listed →
   (∀ j oj,ops[j]? = some oj → j ≠ i → listed.getD j true = false → (∀ e ∈ oj.after,Region.binds .any e = true → e.on ≠ i) → oi.apart ops oj = true) →
   i ∈ Region.ready .any ops listed → OkO P w0 ops (kd i) oi a F →
   (∀ v φ,ValO P w0 ops (kd i) oi a v φ → headW P w0 ops kd x Tx n L f (listed.setIfInBounds i true) (a.put oi.dst v) (upd F oi.dst φ)) →
   headW P w0 ops kd x Tx n L (f + 1) listed a F:=by
 intro f
 induction f with
 | zero =>
  intro listed a F inv _ hr hok H
  have hun:=(mem_ready.1 hr).1
  refine ⟨fun h=>(by rw [h] at hr; cases hr),fun j hj=>?_⟩
  have hjn : j < n:=by
   rcases Nat.lt_or_ge j n with h | h
   ·exact h
   ·exact absurd hj (tail_waits hs hc hn inv _ i rfl hin hun j h)
  refine ⟨hjn,?_⟩
  by_cases hji : j = i
  ·subst hji
   unfold opW
   rw [if_neg hix]
   unfold opM
   rw [hi]
   exact ⟨hok,H⟩
  ·obtain ⟨v,φ,hv⟩:=ValO_ex hok
   have:=hdone _ _ _ (H v φ hv) j (ready_mono hj hji)
   omega
 | succ f ih =>
  intro listed a F inv hfree hr hok H
  have hun:=(mem_ready.1 hr).1
  refine ⟨fun h=>(by rw [h] at hr; cases hr),fun j hj=>?_⟩
  have hjn : j < n:=by
   rcases Nat.lt_or_ge j n with h | h
   ·exact h
   ·exact absurd hj (tail_waits hs hc hn inv _ i rfl hin hun j h)
  refine ⟨hjn,?_⟩
  by_cases hji : j = i
  ·subst hji
   unfold opW
   rw [if_neg hix]
   unfold opM
   rw [hi]
   exact ⟨hok,H⟩
  obtain ⟨hjun,oj,hoj,hall⟩:=mem_ready.1 hj
  have hnot : ∀ e ∈ oj.after,Region.binds .any e = true → e.on ≠ i:=fun e he hb heq=>by
   have h1:=hall e he hb
   rw [heq,getD_both hun] at h1
   cases h1
  obtain ⟨a1,a2,a3⟩:=Oper.apart_spec (hfree j oj hoj hji hjun hnot)
  have hsi : ∀ cs b,oi.op ≠ .select cs b:=fun cs b=>hsel i oi cs b hi
  have hsj : ∀ cs b,oj.op ≠ .select cs b:=fun cs b=>hsel j oj cs b hoj
  have hfree' : ∀ k ok,ops[k]? = some ok → k ≠ i → (listed.setIfInBounds j true).getD k true = false →
    (∀ e ∈ ok.after,Region.binds .any e = true → e.on ≠ i) → oi.apart ops ok = true:=fun k ok hk hki hun hno=>by
   refine hfree k ok hk hki ?_ hno
   by_cases hjk : j = k
   ·subst hjk; exact hjun
   ·rw [getD_set_ne true hjk] at hun; exact hun
  by_cases hjx : j = x
  ·subst hjx
   have hkn : kd i = none:=by
    rcases hpure with h | h
    ·exact h
    ·have:=anc_listed inv _ _ _ (fun ok hok e he hb=>by
      have : ok = oj:=Option.some.inj (hok.symm.trans hoj)
      subst this
      exact hall e he hb) h
     rw [getD_both hun] at this
     cases this
   rw [hkn] at hok H ih
   have at_x : ∀ v φ,ValO P w0 ops none oi a v φ → oj.guard = none ∧ okW P w0 ops Tx oj (a.put oi.dst v) (upd F oi.dst φ) ∧ ∀ u,headW P w0 ops kd j Tx n L f ((listed.setIfInBounds i true).setIfInBounds j true) ((a.put oi.dst v).put oj.dst u) (dropTo oj.dst (Tx u)):=fun v φ hv=>by
    have:=((H v φ hv).2 j (ready_mono hj hji)).2
    unfold opW at this
    rw [if_pos rfl] at this
    obtain ⟨o,ho,h1,h2,h3⟩:=this
    have : o = oj:=Option.some.inj (ho.symm.trans hoj)
    subst this
    exact ⟨h1,h2,h3⟩
   obtain ⟨v0,φ0,hv0⟩:=ValO_ex hok
   unfold opW
   rw [if_pos rfl]
   refine ⟨oj,hoj,(at_x v0 φ0 hv0).1,okW_put hsj a1 (at_x v0 φ0 hv0).2.1,fun u=>?_⟩
   refine ih (listed.setIfInBounds j true) _ _ (inv.set hj hjn) hfree' (ready_mono hr (Ne.symm hji)) (OkO_free ((OkO_put (F:=F) (φ:=fun _=>True) hsi a3).2 hok)) fun v φ hv=>?_
   have hv':=(ValO_put hsi a3).1 hv
   have hφ:=ValO_true hv
   subst hφ
   rw [dropTo_upd (fun t h1 h2=>a2 t h2 h1),Array.setIfInBounds_comm _ _ hji,← Act.put_comm a v u a2]
   exact (at_x v _ hv').2.2 u
  ·have at_j : ∀ v φ,ValO P w0 ops (kd i) oi a v φ → OkO P w0 ops (kd j) oj (a.put oi.dst v) (upd F oi.dst φ) ∧
     ∀ u ψ,ValO P w0 ops (kd j) oj (a.put oi.dst v) u ψ →
      headW P w0 ops kd x Tx n L f ((listed.setIfInBounds i true).setIfInBounds j true) ((a.put oi.dst v).put oj.dst u) (upd (upd F oi.dst φ) oj.dst ψ):=fun v φ hv=>by
    have:=((H v φ hv).2 j (ready_mono hj hji)).2
    unfold opW at this
    rw [if_neg hjx] at this
    unfold opM at this
    rw [hoj] at this
    exact this
   unfold opW
   rw [if_neg hjx]
   unfold opM
   rw [hoj]
   refine ⟨?_,fun u ψ hu=>?_⟩
   ·obtain ⟨v,φ,hv⟩:=ValO_ex hok
    exact (OkO_put hsj a1).1 (at_j v φ hv).1
   ·refine ih (listed.setIfInBounds j true) _ _ (inv.set hj hjn) hfree' (ready_mono hr (Ne.symm hji)) ((OkO_put hsi a3).2 hok) fun v φ hv=>?_
    have hv':=(ValO_put hsi a3).1 hv
    have:=(at_j v φ hv').2 u ψ ((ValO_put hsj a1).2 hu)
    rw [Array.setIfInBounds_comm _ _ hji,← Act.put_comm a v u a2,← upd_comm F φ ψ a2]
    exact this

theorem headW_lex {g : Nat} {Lq : Act → Fm → Prop} (K : List Kind) (hsel : Region.noSelect ops = true) (hs : Region.sinkB .any ops (x + 1) = true) (hc : Region.chainB .any ops (x + 1) = true) (hn : x + 1 < ops.size)
  (hP : ∀ i,i < x → K.getD i none = none ∨ ancB ops ops.size x i = true) :
  ∀ (l : List Oper) (ks : List Kind) (k : Nat) (listed : Array Bool) (a : Act) (F : Fm),(∀ j,j < l.length → l[j]? = ops[k + j]?) → (ks = K.drop k) → k + l.length = x → HeadInv .any ops (x + 1) listed →
  Region.lexHead .any ops g (l.length + 1) k listed = true →
  wpM P w0 ops (fun a' F'=>∃ o,ops[x]? = some o ∧ o.guard = none ∧ okW P w0 ops Tx o a' F' ∧ ∀ v,Lq (a'.put o.dst v) (dropTo o.dst (Tx v))) l ks a F →
  headW P w0 ops (fun i=>K.getD i none) x Tx (x + 1) (fun listed' a' F'=>Region.seqB .any ops g (x + 1) listed' = true ∧ Lq a' F') (l.length + 1) listed a F
 | [],_,k,listed,a,F,_,_,hk,inv,hB,h=>by
  have hkx : k = x:=by simpa using hk
  subst hkx
  simp only [List.length_nil,Region.lexHead,Bool.and_eq_true] at hB
  obtain ⟨⟨hr,hf⟩,hB'⟩:=hB
  have hr' : k ∈ Region.ready .any ops listed:=by simpa using hr
  have hun:=(mem_ready.1 hr').1
  refine ⟨fun h=>(by rw [h] at hr'; cases hr'),fun j hj=>?_⟩
  have hjn : j < k + 1:=by
   rcases Nat.lt_or_ge j (k + 1) with h | h
   ·exact h
   ·exact absurd hj (tail_waits hs hc hn inv _ k rfl (by omega) hun j h)
  refine ⟨hjn,?_⟩
  have hjk : j = k:=by
   by_cases hjk : j = k
   ·exact hjk
   ·have:=seqB_ready hB' j (ready_mono hj hjk)
    omega
  subst hjk
  unfold opW
  rw [if_pos rfl]
  obtain ⟨o,ho,h1,h2,h3⟩:=h
  exact ⟨o,ho,h1,h2,fun v=>⟨hB',h3 v⟩⟩
 | o :: l,ks,k,listed,a,F,hl,hks,hk,inv,hB,h=>by
  have h0 : ops[k]? = some o:=by simpa using (hl 0 (by simp)).symm
  simp only [List.length_cons,Region.lexHead,Bool.and_eq_true] at hB
  obtain ⟨⟨hr,hf⟩,hB'⟩:=hB
  have hkx : k < x:=by simp only [List.length_cons] at hk; omega
  have hr' : k ∈ Region.ready .any ops listed:=by simpa using hr
  have hd : ks.headD none = K.getD k none:=by
   rw [hks,List.headD_eq_head?_getD,List.head?_drop,List.getD_eq_getElem?_getD]
  obtain ⟨hok,hrest⟩:=h
  rw [hd] at hok hrest
  exact headW_first h0 (Region.noSelect_spec hsel) hs hc hn (by omega) (by omega) (hP k hkx) (fun listed' a' F' hL=>seqB_ready hL.1) (l.length + 1) listed a F inv (Region.free_spec h0 hf) hr' hok fun v φ hv =>
   headW_lex K hsel hs hc hn hP l ks.tail (k + 1) _ _ _ (fun j hj=>by have:=hl (j + 1) (by simp; omega); simpa [Nat.add_assoc,Nat.add_comm 1 j] using this) (by rw [hks]; simp) (by simp only [List.length_cons] at hk; omega) (inv.set hr' (by omega)) (by simpa [Region.lexHead] using hB') (hrest v φ hv)

theorem any_of_headW {n g : Nat} {L : Array Bool → Act → Fm → Prop} {Q' : Exit → Act → World → Prop} (hT : ∀ i T,kd i = some (.inr T) → ∀ v,MonoP (T v)) (hTx : ∀ v,MonoP (Tx v))
  (hL : ∀ listed a F w,Ext w0 w → (∀ t,F t w) → L listed a F → wpAny P .any ops Q' g listed a w) :
  ∀ (f : Nat) (listed : Array Bool) (a : Act) (F : Fm) (w : World),Ext w0 w → (∀ t,F t w) → (∀ t,MonoP (F t)) → headW P w0 ops kd x Tx n L f listed a F → wpAny P .any ops Q' (f + g) listed a w
 | 0,listed,a,F,w,hw,hF,_,h=>by rw [Nat.zero_add]; exact hL _ _ _ _ hw hF h
 | f + 1,listed,a,F,w,hw,hF,hM,h=>by
  rw [show f + 1 + g = (f + g) + 1 by omega]
  refine ⟨fun h0=>absurd h0 h.1,fun i hi=>?_⟩
  have hi':=(h.2 i hi).2
  unfold opW at hi'
  by_cases hix : i = x
  ·rw [if_pos hix] at hi'
   rw [hix]
   obtain ⟨o,ho,hg,hok,hnext⟩:=hi'
   rw [hix] at hnext
   obtain ⟨v,w',hrun,he,ht⟩:=hok w hw (fun t _=>hF t)
   unfold wpOp
   rw [ho]
   simp only []
   have hwt : Region.wanted o (yielded ops a.tmps) = true:=by simp [Region.wanted,hg]
   rw [if_pos hwt]
   refine .inl ?_
   unfold Oper.wp
   rw [hrun]
   simp only [Oper.upon]
   refine any_of_headW hT hTx hL f _ _ _ w' he ?_ ?_ (hnext v)
   ·intro t
    unfold dropTo
    split
    ·exact ht
    ·trivial
   ·intro t w1 w2 h12
    unfold dropTo
    split
    ·exact hTx v _ _ h12
    ·exact id
  ·rw [if_neg hix] at hi'
   exact opM_sound hT hw hF hM (fun a F w hw hF hM h=>any_of_headW hT hTx hL f _ a F w hw hF hM h) hi'

theorem wpM_imp {Q Q' : Act → Fm → Prop} (hq : ∀ a F,Q a F → Q' a F) : ∀ (l : List Oper) (ks : List Kind) (a : Act) (F : Fm),wpM P w0 ops Q l ks a F → wpM P w0 ops Q' l ks a F
 | [],_,a,F,h=>hq a F h
 | _ :: l,ks,_,_,h=>⟨h.1,fun v φ hv=>wpM_imp hq l ks.tail _ _ (h.2 v φ hv)⟩

/-- ONE WALK SERVES EVERY ORDER: the first x operations, then the one that writes (x), then the tail as it stands. -/
theorem wp_region_mono_weak {id : Nat} {Q : Exit → Act → World → Prop} {a : Act} {w : World} {l : List Oper} (x : Nat) (K : List Kind) (Tx : Value → World → Prop) (hm : P.follows .mixedOrders = true) (hB : Region.lexTailB .any l.toArray (x + 1) = true)
  (hP : ((List.range x).all fun i=>(K.getD i none).isNone || ancB l.toArray l.toArray.size x i) = true) (hT : monoAll K) (hTx : ∀ v,MonoP (Tx v))
  (h : wpM P w l.toArray (fun a' F=>∃ o d,l.toArray[x]? = some o ∧ o.guard = none ∧ o.dst = some d ∧ okW P w l.toArray Tx o a' F ∧ ∀ v w',Ext w w' → Tx v w' → wpList P l.toArray Q (l.drop (x + 1)) (a'.put o.dst v) w') (l.take x) K a (fun _ _=>True)) :
  (Code.region id l.toArray true).wp P Q a w:=by
 replace hT:=monoAll_mem hT
 simp only [Region.lexTailB,Bool.and_eq_true,decide_eq_true_eq] at hB
 obtain ⟨⟨⟨⟨hsel,hn⟩,hs⟩,hc⟩,hlex⟩:=hB
 have hn' : x + 1 < l.length:=by simpa using hn
 have htl : (l.take x).length = x:=by simp; omega
 have hdl : (l.drop (x + 1)).length = l.toArray.size - (x + 1):=by simp
 have inv0 : HeadInv .any l.toArray (x + 1) (Array.replicate l.toArray.size false) :=
  ⟨by simp,fun j oj _ hl=>(by rw [getD_replicate_false] at hl; cases hl),fun t _ ht=>getD_in (by simpa using ht) (getD_replicate_false _ _)⟩
 have H:=headW_lex (P:=P) (w0:=w) (Tx:=Tx) (g:=l.toArray.size - (x + 1)) (Lq:=fun a' F=>∀ w',Ext w w' → (∀ t,F t w') → wpList P l.toArray Q (l.drop (x + 1)) a' w') K hsel hs hc hn (fun i hi=>by
   have:=List.all_eq_true.1 hP i (List.mem_range.2 hi)
   simp only [Bool.or_eq_true,Option.isNone_iff_eq_none] at this
   exact this) (l.take x) K 0 _ a (fun _ _=>True) (fun j hj=>by
  have hj' : j < x:=by rw [htl] at hj; exact hj
  simp [hj']) (by simp) (by simpa using htl) inv0 (by rw [htl]; exact hlex) (by
   refine wpM_imp (fun a' F ⟨o,d,ho,hg,hd,hok,hq⟩=>?_) _ _ _ _ h
   exact ⟨o,ho,hg,hok,fun v w' he hF=>hq v w' he (by have:=hF d; unfold dropTo at this; rw [if_pos hd] at this; exact this)⟩)
 refine wp_region_any hm ?_
 have:=any_of_headW (Q':=Q) (g:=l.toArray.size - (x + 1)) (mono_of_list hT) hTx (fun listed a' F w' hw hF hL=>by
  have:=wpAny_of_seq (md:=.any) (Q':=Q) (l.drop (x + 1)) (x + 1) listed a' w' (fun j=>by simp [List.getElem?_drop]) (by rw [hdl]; exact hL.1) (hL.2 w' hw hF)
  rwa [hdl] at this) _ _ _ _ ({ w with drawn:=w.drawn + 1 }) ((Ext.refl w).drew) (fun _=>trivial) (fun _ _ _ _ h=>h) H
 rw [htl,show x + 1 + (l.toArray.size - (x + 1)) = l.toArray.size by omega] at this
 exact this

end
end Go.Mk

namespace Go.Mk
open Go Go.RowKit

theorem run_copy_sized {P : Program} (w : World) (t ty e : TypeId) (size : Nat) (hu : P.underlying t = some (.slice e)) (hsz : (P.info? e).map (·.size) = some size) (base g n : Nat) (v : Value) (cs old : List Value)
  (hown : w.ownsRow base e size (.slice (some ⟨g,0,none⟩) n n) n old) (hv : Row w size v n cs) (h1 : ∀ u ∈ cs,u.oneCell' = true) :
  ∃ w',(Builtin.copy_ #[t,t] ty #[.slice (some ⟨g,0,none⟩) n n,v]).run P w = .ok (goInt n) w' ∧ w'.ownsRow base e size (.slice (some ⟨g,0,none⟩) n n) n cs ∧ w.grownBy w' (some g):=by
 obtain ⟨hl,ao,cap,rfl,hc,hm,hnil,hcell⟩:=hv
 obtain ⟨ho,ho'⟩:=hown
 rcases ho' with ⟨h,_⟩ | ⟨g',cap',cur,h,hb,hg,hn,hm',hs,ht⟩
 ·simp at h
 simp only [Value.slice.injEq,Option.some.injEq,Addr.mk.injEq,and_true,true_and] at h
 obtain ⟨rfl,rfl⟩:=h
 cases hq : P.info? e with
 | none=>simp [hq] at hsz
 | some i =>
  have hi : i.size = size:=by simpa [hq] using hsz
  cases ao with
  | none =>
   have hcap:=hnil rfl
   subst hcap
   have h0 : n = 0:=by omega
   subst h0
   have : cs = []:=List.eq_nil_of_length_eq_zero (by simpa using hl)
   subst this
   refine ⟨w,by simp [Builtin.copy_,run_underlying hu,Builtin.lenOf,Builtin.firstCells,sizeOf,typeInfo,hq,storeCells],⟨by simp,.inr ⟨g,0,cur,rfl,hb,hg,Nat.le_refl _,hm',by simpa using hs,by simp⟩⟩,World.grownBy.refl _ _⟩
  | some ad =>
   have hsrc : ∀ j u,cs[j]? = some u → w.cell? (ad.add j) = some u:=fun j u hj=>by
    obtain ⟨b',off',e',hc'⟩:=hcell j u hj
    simp only [Option.some.injEq] at e'
    subst e'
    rw [add_plain]; exact hc'
   have hld:=run_loadCells_list (P:=P) w ad cs hsrc
   have hst:=run_storeCells_at P g 0 e cs 0 cur w hg (by rw [hl,hs]; omega) h1
   simp only [Nat.add_zero,Nat.zero_add,List.take_zero,List.nil_append] at hst
   rw [hl] at hld
   refine ⟨w.setRow g (cs ++ cur.toList.drop cs.length).toArray,by simp [Builtin.copy_,run_underlying hu,Builtin.lenOf,Builtin.firstCells,sizeOf,typeInfo,hq,hi,hld,hst],⟨hl,.inr ⟨g,n,_,rfl,hb,setRow_heap w g cur _ e _ hg,Nat.le_refl _,hm',?_,?_⟩⟩,⟨rfl,rfl,rfl,by simp [World.setRow],fun k _ hk=>setRow_other w g k _ (fun e=>hk (by simp [e]))⟩⟩
   ·simp; omega
   ·simp [← hl]

theorem Rd.set4 {A : Nat → Prop} {φ : World → Prop} {w : World} (h : Rd A φ w) {b : Nat} (hb : ¬ A b) (u v x y : Value) : Rd A φ ((((w.setCell ⟨b,0,none⟩ u).setCell ⟨b,1,none⟩ v).setCell ⟨b,2,none⟩ x).setCell ⟨b,3,none⟩ y) :=
 (((h.set hb 0 u).set hb 1 v).set hb 2 x).set hb 3 y

end Go.Mk

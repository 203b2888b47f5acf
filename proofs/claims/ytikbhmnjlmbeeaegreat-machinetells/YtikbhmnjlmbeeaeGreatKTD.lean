/- Texts of the proof, merged: Mem3 Math1 Math5 Math8. -/
import Derived.Test.YtikbhmnjlmbeeaeGreatKTA
import Derived.Test.YtikbhmnjlmbeeaeGreatKTC
import Derived.Test.YtikbhmnjlmbeeaeGreatKTB

namespace Go.Mk
open Go Go.RowKit

abbrev El (X : Type):=World -> List Value -> X -> Prop
def zfO {X : Type} (R : El X) : Prop:=∀ w w' c x,Ext w w' -> R w c x -> R w' c x
def zpU {X : Type} (R : El X) : Prop:=∀ w c x,R w c x -> ∀ u ∈ c,u.oneCell' = true

section
variable {X : Type} {size : Nat} {R : El X}

def zdb (size : Nat) (R : El X) (w : World) (css : List (List Value)) (xs : List X) : Prop :=
 css.length = xs.length /\ ∀ (i : Nat) c x,css[i]? = some c -> xs[i]? = some x -> c.length = size /\ R w c x

theorem zdb.ext (hR : zfO R) {w w' : World} {css : List (List Value)} {xs : List X} (h : zdb size R w css xs) (he : Ext w w') : zdb size R w' css xs :=
 ⟨h.1,fun i c x hc hx=>⟨(h.2 i c x hc hx).1,hR _ _ _ _ he (h.2 i c x hc hx).2⟩⟩
theorem zdb.nil (w : World) : zdb size R w [] []:=⟨rfl,fun i c x hc=>by simp at hc⟩
theorem zdb.snoc {w : World} {css : List (List Value)} {xs : List X} {c : List Value} {x : X} (h : zdb size R w css xs) (hc : c.length = size) (hr : R w c x) : zdb size R w (css ++ [c]) (xs ++ [x]):=by
 refine ⟨by simp [h.1],fun i d y hd hy=>?_⟩
 by_cases hi : i < css.length
 ·rw [List.getElem?_append_left hi] at hd
  rw [List.getElem?_append_left (by rw [<- h.1]; exact hi)] at hy
  exact h.2 i d y hd hy
 ·have hlt:=(List.getElem?_eq_some_iff.1 hd).1
  simp at hlt
  have hi2 : i = css.length:=by omega
  subst hi2
  rw [List.getElem?_append_right (Nat.le_refl _)] at hd
  rw [h.1,List.getElem?_append_right (Nat.le_refl _)] at hy
  simp at hd hy
  subst hd hy
  exact ⟨hc,hr⟩
theorem zdb.append {w : World} {css dss : List (List Value)} {xs ys : List X} (h : zdb size R w css xs) (k : zdb size R w dss ys) : zdb size R w (css ++ dss) (xs ++ ys):=by
 refine ⟨by simp [h.1,k.1],fun i d y hd hy=>?_⟩
 by_cases hi : i < css.length
 ·rw [List.getElem?_append_left hi] at hd
  rw [List.getElem?_append_left (by rw [<- h.1]; exact hi)] at hy
  exact h.2 i d y hd hy
 ·rw [List.getElem?_append_right (by omega)] at hd
  rw [List.getElem?_append_right (by rw [<- h.1]; omega),<- h.1] at hy
  exact k.2 _ d y hd hy
theorem zdb.take {w : World} {css : List (List Value)} {xs : List X} (h : zdb size R w css xs) (k : Nat) : zdb size R w (css.take k) (xs.take k):=by
 refine ⟨by simp [h.1],fun i d y hd hy=>?_⟩
 rw [List.getElem?_take] at hd hy
 split at hd
 ·rw [if_pos (by assumption)] at hy; exact h.2 i d y hd hy
 ·cases hd
theorem zdb.drop {w : World} {css : List (List Value)} {xs : List X} (h : zdb size R w css xs) (k : Nat) : zdb size R w (css.drop k) (xs.drop k):=by
 refine ⟨by simp [h.1],fun i d y hd hy=>?_⟩
 rw [List.getElem?_drop] at hd hy
 exact h.2 _ d y hd hy
theorem zdb.set {w : World} {css : List (List Value)} {xs : List X} (h : zdb size R w css xs) (k : Nat) {c : List Value} {x : X} (hc : c.length = size) (hr : R w c x) : zdb size R w (css.set k c) (xs.set k x):=by
 refine ⟨by simp [h.1],fun i d y hd hy=>?_⟩
 rw [List.getElem?_set] at hd hy
 split at hd
 ·rename_i hki
  split at hd
  ·rw [if_pos hki,if_pos (by rw [<- h.1]; assumption)] at hy
   simp at hd hy
   subst hd hy
   exact ⟨hc,hr⟩
  ·cases hd
 ·rw [if_neg (by assumption)] at hy
  exact h.2 i d y hd hy
theorem zdb.sizes {w : World} {css : List (List Value)} {xs : List X} (h : zdb size R w css xs) : ∀ c ∈ css,c.length = size:=fun c hc=>by
 obtain ⟨i,hi⟩:=List.mem_iff_getElem?.1 hc
 have hlt:=(List.getElem?_eq_some_iff.1 hi).1
 have hx : xs[i]? = some (xs[i]'(by rw [<- h.1]; exact hlt)):=List.getElem?_eq_getElem _
 exact (h.2 i c _ hi hx).1
theorem zdb.ones (hO : zpU R) {w : World} {css : List (List Value)} {xs : List X} (h : zdb size R w css xs) : ∀ u ∈ css.flatten,u.oneCell' = true:=fun u hu=>by
 obtain ⟨c,hc,huc⟩:=List.mem_flatten.1 hu
 obtain ⟨i,hi⟩:=List.mem_iff_getElem?.1 hc
 have hlt:=(List.getElem?_eq_some_iff.1 hi).1
 have hx : xs[i]? = some (xs[i]'(by rw [<- h.1]; exact hlt)):=List.getElem?_eq_getElem _
 exact hO _ _ _ (h.2 i c _ hi hx).2 u huc

def zaw (size : Nat) (R : El X) (w : World) (v : Value) (xs : List X) : Prop:=∃ css,zdb size R w css xs /\ Row w size v xs.length css.flatten

theorem zaw.ext (hR : zfO R) {w w' : World} {v : Value} {xs : List X} (h : zaw size R w v xs) (he : Ext w w') : zaw size R w' v xs:=by
 obtain ⟨css,h1,h2⟩:=h
 exact ⟨css,h1.ext hR he,h2.ext he⟩
theorem zaw.mono (hR : zfO R) (xs : List X) : ∀ v,zcr (fun w=>zaw size R w v xs):=fun _ _ _ he h=>zaw.ext hR h he
theorem zaw.nil (w : World) : zaw size R w (.slice none 0 0) []:=⟨[],zdb.nil w,Row.of_owns (World.ownsRow_nil w 0 0 size)⟩

theorem zc7 (hs : 0 < size) {css : List (List Value)} (h : ∀ c ∈ css,c.length = size) {k j : Nat} {c : List Value} {u : Value} (hc : css[k]? = some c) (hj : c[j]? = some u) : css.flatten[k * size + j]? = some u:=by
 have hjl : j < size:=by rw [<- h c (List.mem_of_getElem? hc)]; exact (List.getElem?_eq_some_iff.1 hj).1
 rw [zgJ size hs css h]
 rw [show (k * size + j) / size = k by rw [Nat.mul_comm,Nat.mul_add_div hs,Nat.div_eq_of_lt hjl,Nat.add_zero],show (k * size + j) % size = j by rw [Nat.mul_comm,Nat.mul_add_mod,Nat.mod_eq_of_lt hjl],hc]
 exact hj

theorem zaw.form (hs : 0 < size) {w : World} {v : Value} {xs : List X} (h : zaw size R w v xs) : ∃ ao cap,v = .slice ao xs.length cap /\ xs.length <= cap /\ cap <= maxLen /\ (ao = none -> cap = 0) /\
  ∀ k x,xs[k]? = some x -> ∃ b off c,ao = some ⟨b,off,none⟩ /\ c.length = size /\ R w c x /\ ∀ j u,c[j]? = some u -> w.cell? ⟨b,off + (k * size + j),none⟩ = some u:=by
 obtain ⟨css,he,hl,ao,cap,h2,h3,h4,h0,h5⟩:=h
 refine ⟨ao,cap,h2,h3,h4,h0,fun k x hx=>?_⟩
 have hk : k < css.length:=by rw [he.1]; exact (List.getElem?_eq_some_iff.1 hx).1
 have hc : css[k]? = some css[k]:=List.getElem?_eq_getElem hk
 obtain ⟨c1,c2⟩:=he.2 k _ x hc hx
 have hall:=he.sizes
 have h0' : ∃ u,css[k][0]? = some u:=⟨css[k][0]'(by rw [c1]; exact hs),List.getElem?_eq_getElem _⟩
 obtain ⟨u0,hu0⟩:=h0'
 obtain ⟨b,off,e,_⟩:=h5 _ _ (zc7 hs hall hc hu0)
 refine ⟨b,off,css[k],e,c1,c2,fun j u hj=>?_⟩
 obtain ⟨b',off',e',hc'⟩:=h5 _ _ (zc7 hs hall hc hj)
 rw [e] at e'
 simp only [Option.some.injEq,Addr.mk.injEq,and_true] at e'
 obtain ⟨rfl,rfl⟩:=e'
 exact hc'

theorem zfF (hs : 0 < size) : ∀ {css : List (List Value)} (_ : ∀ c ∈ css,c.length = size) (k : Nat),(css.take k).flatten = css.flatten.take (k * size)
 | [],_,k=>by simp
 | c :: css,h,0=>by simp
 | c :: css,h,k + 1=>by
  have hc : c.length = size:=h c (by simp)
  rw [List.take_succ_cons,List.flatten_cons,List.flatten_cons,zfF hs (fun c hc=>h c (by simp [hc])) k,show (k + 1) * size = c.length + k * size by rw [hc,Nat.add_mul]; omega,List.take_append,List.take_of_length_le (l:=c) (by omega),show c.length + k * size - c.length = k * size by omega]
theorem zfv (hs : 0 < size) : ∀ {css : List (List Value)} (_ : ∀ c ∈ css,c.length = size) (k : Nat),(css.drop k).flatten = css.flatten.drop (k * size)
 | [],_,k=>by simp
 | c :: css,h,0=>by simp
 | c :: css,h,k + 1=>by
  have hc : c.length = size:=h c (by simp)
  rw [List.drop_succ_cons,List.flatten_cons,zfv hs (fun c hc=>h c (by simp [hc])) k,show (k + 1) * size = c.length + k * size by rw [hc,Nat.add_mul]; omega,List.drop_append,List.drop_of_length_le (l:=c) (by omega),show c.length + k * size - c.length = k * size by omega,List.nil_append]

theorem zaw.take (hs : 0 < size) {w : World} {ao : Option Addr} {n cap : Nat} {xs : List X} (h : zaw size R w (.slice ao n cap) xs) (k : Nat) (hk : k <= xs.length) : zaw size R w (.slice ao k cap) (xs.take k):=by
 obtain ⟨css,he,hr⟩:=h
 have hn : n = xs.length:=by
  obtain ⟨_,ao',cap',e,_⟩:=hr
  simp at e
  exact e.2.1
 subst hn
 refine ⟨css.take k,he.take k,?_⟩
 rw [zfF hs he.sizes,List.length_take,Nat.min_eq_left hk]
 exact hr.take k hk

theorem zaw.drop (hs : 0 < size) {w : World} {b off n cap : Nat} {xs : List X} (h : zaw size R w (.slice (some ⟨b,off,none⟩) n cap) xs) (k : Nat) (hk : k <= xs.length) : zaw size R w (.slice (some ⟨b,off + k * size,none⟩) (xs.length - k) (cap - k)) (xs.drop k):=by
 obtain ⟨css,he,hl,ao',cap',h2,h3,h4,h0,h5⟩:=h
 simp only [Value.slice.injEq] at h2
 obtain ⟨rfl,rfl,rfl⟩:=h2
 refine ⟨css.drop k,he.drop k,?_⟩
 rw [zfv hs he.sizes,List.length_drop]
 refine ⟨by rw [List.length_drop,hl,Nat.sub_mul],_,_,rfl,by omega,by omega,(fun h=>by cases h),fun j u hj=>?_⟩
 rw [List.getElem?_drop] at hj
 obtain ⟨b',off',e',hc'⟩:=h5 _ u hj
 simp only [Option.some.injEq,Addr.mk.injEq,and_true] at e'
 obtain ⟨rfl,rfl⟩:=e'
 exact ⟨b,off + k * size,rfl,by rw [Nat.add_assoc]; exact hc'⟩

def zkR (base e size : Nat) (R : El X) (w : World) (v : Value) (xs : List X) : Prop:=∃ css,zdb size R w css xs /\ w.ownsRow base e size v xs.length css.flatten

theorem zkR.row {base e : Nat} {w : World} {v : Value} {xs : List X} (h : zkR base e size R w v xs) : zaw size R w v xs:=by
 obtain ⟨css,h1,h2⟩:=h
 exact ⟨css,h1,Row.of_owns h2⟩
theorem zkR.nil (base e : Nat) (w : World) : zkR base e size R w (.slice none 0 0) []:=⟨[],zdb.nil w,World.ownsRow_nil w base e size⟩
theorem zkR.ext (hR : zfO R) {base e : Nat} {w w' : World} {v : Value} {xs : List X} (h : zkR base e size R w v xs) (he : Ext w w') : zkR base e size R w' v xs:=by
 obtain ⟨css,h1,h2⟩:=h
 exact ⟨css,h1.ext hR he,zal h2 he⟩
theorem zkR.mono (hR : zfO R) (base e : Nat) (xs : List X) : ∀ v,zcr (fun w=>zkR base e size R w v xs):=fun _ _ _ he h=>zkR.ext hR h he

end
end Go.Mk

/- Chapter 1, plain mathematics: cells as lists of numbers. -/
namespace Go.Mk

def zcd (xs : List Int) : Int:=if xs.length = 0 then 0 else min (xs.getD 0 0) (((xs.length : Int) - 1) / 2)

def findIn (xs : List Int) (name : Int) : Nat -> Nat -> Int
 | 0,_=>-1
 | n + 1,i=>if xs.getD (1 + 2 * i) 0 = name then (i : Int) else findIn xs name n (i + 1)

theorem zif {xs : List Int} {name n : Int} {k : Nat} (hlt : (k : Int) < n) (h : (xs.getD (1 + 2 * k) 0 == name) = true) : findIn xs name (n.toNat - k) k = (k : Int):=by
 obtain ⟨m,hm⟩ : ∃ m,n.toNat - k = m + 1:=⟨n.toNat - k - 1,by omega⟩
 rw [hm,findIn,if_pos (by simpa using h)]
theorem zhT {xs : List Int} {name n : Int} {k : Nat} (hlt : (k : Int) < n) (h : (xs.getD (1 + 2 * k) 0 == name) = false) : findIn xs name (n.toNat - k) k = findIn xs name (n.toNat - (k + 1)) (k + 1):=by
 obtain ⟨m,hm⟩ : ∃ m,n.toNat - k = m + 1:=⟨n.toNat - k - 1,by omega⟩
 rw [hm,findIn,if_neg (by simpa using h),show n.toNat - (k + 1) = m by omega]
theorem ziI {xs : List Int} {name n : Int} {k : Nat} (hlt : ¬ (k : Int) < n) : findIn xs name (n.toNat - k) k = -1:=by
 rw [show n.toNat - k = 0 by omega,findIn]
def zgh (xs : List Int) (i : Nat) : Int :=
 if ¬ (1 <= xs.getD (1 + 2 * i) 0 /\ xs.getD (1 + 2 * i) 0 <= 255) ∨ ¬ (-1073741824 <= xs.getD (2 + 2 * i) 0 /\ xs.getD (2 + 2 * i) 0 <= 1073741824) then 3
 else if 0 <= findIn xs (xs.getD (1 + 2 * i) 0) i 0 then 7 else 0

def zia (xs : List Int) : Nat -> Nat -> Int
 | 0,_=>0
 | n + 1,i=>if zgh xs i = 0 then zia xs n (i + 1) else zgh xs i

def zep (xs : List Int) : Int :=
 if xs.length ≠ 11 then 5 else if ¬ (0 <= xs.getD 0 0 /\ xs.getD 0 0 <= 5) then 3 else zia xs (xs.getD 0 0).toNat 0

def zdc (xs : List Int) (p : Int × Int) : List Int:=if 0 <= p.1 /\ p.1 < (xs.length : Int) then xs.set p.1.toNat p.2 else xs
def zaH (xs : List Int) (l : List (Int × Int)) : List Int:=l.foldl zdc xs
def zbM (xs : List Int) : List (Int × Int) -> List (Int × Int)
 | []=>[]
 | p :: l=>zbM (zdc xs p) l ++ (if 0 <= p.1 /\ p.1 < (xs.length : Int) then [(p.1,xs.getD p.1.toNat 0)] else [])

theorem zfY (xs : List Int) (p : Int × Int) : (zdc xs p).length = xs.length:=by unfold zdc; split <;> simp
theorem zbU (xs : List Int) (l : List (Int × Int)) : (zaH xs l).length = xs.length:=by
 induction l generalizing xs with
 | nil=>rfl
 | cons p l ih=>show (zaH (zdc xs p) l).length = _; rw [ih,zfY]

theorem zfZ (xs : List Int) (l : List (Int × Int)) (p : Int × Int) : zaH xs (l ++ [p]) = zdc (zaH xs l) p:=by simp [zaH]

theorem zkJ (xs : List Int) (l : List (Int × Int)) (p : Int × Int) :
  zbM xs (l ++ [p]) = (if 0 <= p.1 /\ p.1 < (xs.length : Int) then [(p.1,(zaH xs l).getD p.1.toNat 0)] else []) ++ zbM xs l:=by
 induction l generalizing xs with
 | nil=>simp [zbM,zaH]
 | cons q l ih =>
  show zbM (zdc xs q) (l ++ [p]) ++ _ = _ ++ (zbM (zdc xs q) l ++ _)
  rw [ih,zfY,<- List.append_assoc]
  rfl

theorem zf3 (xs : List Int) (l : List (Int × Int)) : (zbM xs l).length <= l.length:=by
 induction l generalizing xs with
 | nil=>simp [zbM]
 | cons p l ih =>
  rw [zbM,List.length_append]
  have:=ih (zdc xs p)
  simp only [List.length_cons]
  split <;> simp <;> omega

def rv (us : List (Int × Int)) (k : Nat) : List (Int × Int):=(List.range us.length).map fun i=>if i < k ∨ us.length <= i + k then us.getD (us.length - 1 - i) (0,0) else us.getD i (0,0)
theorem zhz (us : List (Int × Int)) (k : Nat) : (rv us k).length = us.length:=by simp [rv]
theorem getElem?_rv (us : List (Int × Int)) (k i : Nat) : (rv us k)[i]? = if i < us.length then some (if i < k ∨ us.length <= i + k then us.getD (us.length - 1 - i) (0,0) else us.getD i (0,0)) else none:=by
 unfold rv
 rw [List.getElem?_map]
 by_cases h : i < us.length
 ·simp [h]
 ·simp [h]
theorem zo3 (us : List (Int × Int)) : rv us 0 = us:=by
 apply List.ext_getElem?
 intro i
 rw [getElem?_rv]
 by_cases h : i < us.length
 ·rw [if_pos h,if_neg (by omega)]
  simp [h]
 ·rw [if_neg h]
  simp [h]
theorem zpJ (us : List (Int × Int)) (k : Nat) (h : us.length <= 2 * k + 1) : rv us k = us.reverse:=by
 apply List.ext_getElem?
 intro i
 rw [getElem?_rv]
 by_cases hi : i < us.length
 ·rw [if_pos hi,List.getElem?_reverse hi]
  have h1 : us.length - 1 - i < us.length:=by omega
  by_cases hc : i < k ∨ us.length <= i + k
  ·rw [if_pos hc]
   simp [h1]
  ·rw [if_neg hc,show us.length - 1 - i = i by omega]
   simp [hi]
 ·rw [if_neg hi]
  rw [List.getElem?_eq_none (by simp; omega)]
theorem zoW (us : List (Int × Int)) (k : Nat) (h : 2 * k + 1 < us.length) : rv us (k + 1) = ((rv us k).set k (us.getD (us.length - 1 - k) (0,0))).set (us.length - 1 - k) (us.getD k (0,0)):=by
 apply List.ext_getElem?
 intro i
 rw [getElem?_rv,List.getElem?_set,List.length_set,zhz,List.getElem?_set,zhz,getElem?_rv]
 by_cases hi : i < us.length
 ·rw [if_pos hi]
  by_cases h1 : us.length - 1 - k = i
  ·rw [if_pos h1,if_pos (by omega),if_pos (by omega),show us.length - 1 - i = k by omega]
  ·rw [if_neg h1]
   by_cases h2 : k = i
   ·subst h2
    rw [if_pos rfl,if_pos hi,if_pos (by omega)]
   ·rw [if_neg h2,if_pos hi]
    by_cases h3 : i < k ∨ us.length <= i + k
    ·rw [if_pos h3,if_pos (by omega)]
    ·rw [if_neg h3,if_neg (by omega)]
 ·rw [if_neg hi,if_neg (by omega),if_neg (by omega),if_neg hi]
theorem zp7 (us : List (Int × Int)) (k : Nat) (h : 2 * k + 1 < us.length) : (rv us k).getD k (0,0) = us.getD k (0,0) /\ (rv us k).getD (us.length - 1 - k) (0,0) = us.getD (us.length - 1 - k) (0,0):=by
 constructor
 ·rw [List.getD_eq_getElem?_getD,getElem?_rv,if_pos (by omega),if_neg (by omega)]; rfl
 ·rw [List.getD_eq_getElem?_getD,getElem?_rv,if_pos (by omega),if_neg (by omega)]; rfl

def lastAt (l : List (Int × Int)) (i : Int) (n : Int) : Int:=l.foldl (fun n p=>if p.1 = i then p.2 else n) n
theorem zlF (l : List (Int × Int)) (p : Int × Int) (i n : Int) : lastAt (l ++ [p]) i n = if p.1 = i then p.2 else lastAt l i n:=by simp [lastAt]
theorem zki (xs : List Int) (p : Int × Int) (i : Nat) (hi : i < xs.length) : (zdc xs p).getD i 0 = if p.1 = (i : Int) then p.2 else xs.getD i 0:=by
 unfold zdc
 by_cases h : 0 <= p.1 /\ p.1 < (xs.length : Int)
 ·rw [if_pos h]
  by_cases he : p.1 = (i : Int)
  ·rw [if_pos he,show p.1.toNat = i by omega]
   simp [hi]
  ·rw [if_neg he,List.getD_eq_getElem?_getD,List.getElem?_set_ne (by omega),List.getD_eq_getElem?_getD]
 ·rw [if_neg h,if_neg (by omega)]
theorem zjA (xs : List Int) (l : List (Int × Int)) (i : Nat) (hi : i < xs.length) : (zaH xs l).getD i 0 = lastAt l i (xs.getD i 0):=by
 induction l generalizing xs with
 | nil=>rfl
 | cons p l ih =>
  show (zaH (zdc xs p) l).getD i 0 = lastAt l i (if p.1 = (i : Int) then p.2 else xs.getD i 0)
  rw [ih _ (by rw [zfY]; exact hi),zki xs p i hi]
theorem zlK (xs : List Int) (l : List (Int × Int)) (k : Nat) (hk : k < xs.length) : (zaH xs l).take (k + 1) = (zaH xs l).take k ++ [lastAt l k (xs.getD k 0)]:=by
 rw [<- zjA xs l k hk,List.take_add_one]
 have : k < (zaH xs l).length:=by rw [zbU]; exact hk
 simp [this]

open Go Go.RowKit

theorem zcs (xs : List Int) (n i : Nat) (h : i < n) : (zaO xs n).getD i (0,0) = (xs.getD (1 + 2 * i) 0,xs.getD (1 + 2 * i + 1) 0):=by
 simp [zaO,List.getD_eq_getElem?_getD,h]

/-! ### Right cells are cells whose zdQ are right -/

theorem zjR (xs : List Int) (name : Int) : ∀ n i,findIn xs name n i < 0 ↔ ∀ j,i <= j -> j < i + n -> xs.getD (1 + 2 * j) 0 ≠ name
 | 0,i=>by
  constructor
  ·intro _ j h1 h2; omega
  ·intro _; simp [findIn]
 | n + 1,i=>by
  rw [findIn]
  by_cases h : xs.getD (1 + 2 * i) 0 = name
  ·rw [if_pos h]
   constructor
   ·intro h2; omega
   ·intro h2; exact absurd h (h2 i (Nat.le_refl _) (by omega))
  ·rw [if_neg h,zjR xs name n (i + 1)]
   constructor
   ·intro h2 j h3 h4
    by_cases e : j = i
    ·rw [e]; exact h
    ·exact h2 j (by omega) (by omega)
   ·intro h2 j h3 h4
    exact h2 j (by omega) (by omega)
theorem zhe (xs : List Int) : ∀ n i,zia xs n i = 0 ↔ ∀ j,i <= j -> j < i + n -> zgh xs j = 0
 | 0,i=>by
  constructor
  ·intro _ j h1 h2; omega
  ·intro _; rfl
 | n + 1,i=>by
  rw [zia]
  by_cases h : zgh xs i = 0
  ·rw [if_pos h,zhe xs n (i + 1)]
   constructor
   ·intro h2 j h3 h4
    by_cases e : j = i
    ·rw [e]; exact h
    ·exact h2 j (by omega) (by omega)
   ·intro h2 j h3 h4
    exact h2 j (by omega) (by omega)
  ·rw [if_neg h]
   constructor
   ·intro h2; exact absurd h2 h
   ·intro h2; exact absurd (h2 i (Nat.le_refl _) (by omega)) h
theorem zft (xs : List Int) (i : Nat) : zgh xs i = 0 ↔ (1 <= xs.getD (1 + 2 * i) 0 /\ xs.getD (1 + 2 * i) 0 <= 255 /\ -1073741824 <= xs.getD (1 + 2 * i + 1) 0 /\ xs.getD (1 + 2 * i + 1) 0 <= 1073741824) /\ ∀ j,j < i -> xs.getD (1 + 2 * j) 0 ≠ xs.getD (1 + 2 * i) 0:=by
 unfold zgh
 rw [show 2 + 2 * i = 1 + 2 * i + 1 by omega]
 have hf:=zjR xs (xs.getD (1 + 2 * i) 0) i 0
 by_cases h1 : ¬ (1 <= xs.getD (1 + 2 * i) 0 /\ xs.getD (1 + 2 * i) 0 <= 255) ∨ ¬ (-1073741824 <= xs.getD (1 + 2 * i + 1) 0 /\ xs.getD (1 + 2 * i + 1) 0 <= 1073741824)
 ·rw [if_pos h1]
  constructor
  ·intro h; cases h
  ·intro h; omega
 ·rw [if_neg h1]
  by_cases h2 : 0 <= findIn xs (xs.getD (1 + 2 * i) 0) i 0
  ·rw [if_pos h2]
   constructor
   ·intro h; cases h
   ·intro h
    have:=hf.2 (fun j _ h4=>h.2 j (by omega))
    omega
  ·rw [if_neg h2]
   constructor
   ·intro _
    exact ⟨by omega,fun j hj=>hf.1 (by omega) j (Nat.zero_le _) (by omega)⟩
   ·intro _; rfl
theorem zhH (xs : List Int) : zep xs = 0 ↔ xs.length = 11 /\ 0 <= xs.getD 0 0 /\ xs.getD 0 0 <= 5 /\ Okn (zaO xs (xs.getD 0 0).toNat):=by
 unfold zep
 by_cases h1 : xs.length ≠ 11
 ·rw [if_pos h1]
  constructor
  ·intro h; cases h
  ·intro h; exact absurd h.1 h1
 rw [if_neg h1]
 by_cases h2 : ¬ (0 <= xs.getD 0 0 /\ xs.getD 0 0 <= 5)
 ·rw [if_pos h2]
  constructor
  ·intro h; cases h
  ·intro h; exact absurd ⟨h.2.1,h.2.2.1⟩ h2
 rw [if_neg h2,zhe]
 have hx : 0 <= xs.getD 0 0 /\ xs.getD 0 0 <= 5:=by simpa using h2
 constructor
 ·intro h
  refine ⟨by simpa using h1,hx.1,hx.2,zie (by rw [zaR]; omega) (fun i hi=>?_) (fun i j hij hj=>?_)⟩
  ·rw [zaR] at hi
   rw [zcs _ _ _ hi]
   exact ((zft xs i).1 (h i (Nat.zero_le _) (by omega))).1
  ·rw [zaR] at hj
   rw [zcs _ _ _ hj,zcs _ _ _ (by omega)]
   exact ((zft xs j).1 (h j (Nat.zero_le _) (by omega))).2 i hij
 ·rintro ⟨_,_,_,hok⟩ j _ hj
  have hjl : j < (xs.getD 0 0).toNat:=by omega
  rw [zft]
  have ha:=hok.at (i:=j) (by rw [zaR]; exact hjl)
  rw [zcs _ _ _ hjl] at ha
  refine ⟨ha,fun i hi e=>?_⟩
  have:=hok.uni (i:=i) (j:=j) (by rw [zaR]; omega) (by rw [zaR]; exact hjl) (by rw [zcs _ _ _ hjl,zcs _ _ _ (by omega)]; exact e)
  omega
theorem zb3 (xs : List Int) (name : Int) (n : Nat) : findIn xs name n 0 = if at1 (zaO xs n) name < n then (at1 (zaO xs n) name : Int) else -1:=by
 have key : ∀ m i,i + m = n -> (∀ j,j < i -> xs.getD (1 + 2 * j) 0 ≠ name) -> findIn xs name m i = if at1 (zaO xs n) name < n then (at1 (zaO xs n) name : Int) else -1:=by
  intro m
  induction m with
  | zero =>
   intro i hi hb
   have : at1 (zaO xs n) name = (zaO xs n).length:=zhk (fun j hj=>by rw [zaR] at hj; rw [zcs _ _ _ hj]; exact hb j (by omega))
   rw [zaR] at this
   rw [findIn,if_neg (by omega)]
  | succ m ih =>
   intro i hi hb
   rw [findIn]
   by_cases h : xs.getD (1 + 2 * i) 0 = name
   ·have : at1 (zaO xs n) name = i:=zkn (by rw [zaR]; omega) (by rw [zcs _ _ _ (by omega)]; exact h) (fun j hj=>by rw [zcs _ _ _ (by omega)]; exact hb j hj)
    rw [if_pos h,this,if_pos (by omega)]
   ·rw [if_neg h]
    refine ih (i + 1) (by omega) (fun j hj=>?_)
    by_cases e : j = i
    ·rw [e]; exact h
    ·exact hb j (by omega)
 exact key n 0 (by omega) (fun j hj=>by omega)

/-! ### The writes of a call -/

def zeX (xs : List Int) : Prop:=xs.length = 11 /\ 0 <= xs.getD 0 0 /\ xs.getD 0 0 <= 5 /\ Okw (zaO xs (xs.getD 0 0).toNat)
theorem zeX.c {xs : List Int} (h : zeX xs) : xs.length = 11 /\ 0 <= xs.getD 0 0 /\ xs.getD 0 0 <= 5:=⟨h.1,h.2.1,h.2.2.1⟩
theorem zmx {xs : List Int} (h : zep xs = 0) : zeX xs:=by
 obtain ⟨h1,h2,h3,h4⟩:=(zhH xs).1 h
 exact ⟨h1,h2,h3,h4.w⟩

def zcF (l : List (Int × Int)) (c : Cl) : List (Int × Int) :=
 if c.kind = 1 then
  if at1 l c.name < l.length then [(2 + 2 * (at1 l c.name : Int),c.n)] else [(1 + 2 * (l.length : Int),c.name),(2 + 2 * (l.length : Int),c.n),(0,(l.length : Int) + 1)]
 else if c.kind = 3 then
  if at1 l c.name + 1 < l.length then [(1 + 2 * (at1 l c.name : Int),(l.getD (l.length - 1) (0,0)).1),(2 + 2 * (at1 l c.name : Int),(l.getD (l.length - 1) (0,0)).2),(0,(l.length : Int) - 1)] else [(0,(l.length : Int) - 1)]
 else if c.kind = 4 then [(2 + 2 * (at1 l c.name : Int),num l (at1 l c.name) + c.n)]
 else if c.kind = 6 then [(2 + 2 * (at1 l c.name : Int),num l (at1 l c.other)),(2 + 2 * (at1 l c.other : Int),num l (at1 l c.name))]
 else []

def zbm (l : List (Int × Int)) (c : Cl) : List (Int × Int):=if (zbq l c).2.err ≠ 0 then [] else zcF l c

theorem zoc (l : List (Int × Int)) (c : Cl) : (zbm l c).length <= 3:=by
 unfold zbm zcF
 repeat' split
 all_goals simp

theorem zm7 {ds : List Int} {l : List (Int × Int)} (h0 : ds.getD 0 0 = (l.length : Int)) (hp : ∀ i,i < l.length -> ds.getD (1 + 2 * i) 0 = (l.getD i (0,0)).1 /\ ds.getD (1 + 2 * i + 1) 0 = (l.getD i (0,0)).2) : zaO ds (ds.getD 0 0).toNat = l:=by
 rw [h0]
 refine zlx (by rw [zaR]; omega) fun i hi=>?_
 rw [zaR] at hi
 rw [zcs _ _ _ hi]
 have:=hp i (by omega)
 exact Prod.ext this.1 this.2

theorem zpa {xs : List Int} {c : Cl} {l : List (Int × Int)} (hl : xs.length = 11) (x0 : 0 <= xs.getD 0 0) (hll : xs.getD 0 0 = (l.length : Int)) (hat : ∀ i,i < l.length -> xs.getD (1 + 2 * i) 0 = (l.getD i (0,0)).1 /\ xs.getD (1 + 2 * i + 1) 0 = (l.getD i (0,0)).2)
  (hok : Okn l) (hc : wrongCl c = 0) :
  (zaH xs (zbm l c)).getD 0 0 = ((zbq l c).1.length : Int) /\ ∀ i,i < (zbq l c).1.length -> (zaH xs (zbm l c)).getD (1 + 2 * i) 0 = ((zbq l c).1.getD i (0,0)).1 /\ (zaH xs (zbm l c)).getD (1 + 2 * i + 1) 0 = ((zbq l c).1.getD i (0,0)).2:=by
 have h5:=hok.len
 have hset : ∀ W j,j < 11 -> (zaH xs W).getD j 0 = lastAt W j (xs.getD j 0):=fun W j hj=>zjA xs W j (by omega)
 have hkk:=zko hok hc
 by_cases he : (zbq l c).2.err ≠ 0
 ·have e1 : zbm l c = []:=by unfold zbm; rw [if_pos he]
  have e2 : (zbq l c).1 = l:=by
   rcases hkk.2.1 with h | h
   ·exact absurd h he
   ·exact h.2
  rw [e1,e2]
  exact ⟨hll,hat⟩
 have he' : (zbq l c).2.err = 0:=by simpa using he
 rw [show zbm l c = zcF l c from if_neg he]
 clear hkk
 unfold zcF
 obtain ⟨k,a,o,n⟩:=c
 simp only
 have hk : k = 1 ∨ k = 2 ∨ k = 3 ∨ k = 4 ∨ k = 5 ∨ k = 6:=by
  unfold wrongCl at hc
  split at hc
  ·cases hc
  ·rename_i h; simp at h; omega
 rcases hk with rfl | rfl | rfl | rfl | rfl | rfl
 ·rw [if_pos rfl]
  have hd : zbq l ⟨1,a,o,n⟩ = if at1 l a < l.length then (zcG l (at1 l a) n,⟨0,num l (at1 l a)⟩) else if 5 <= l.length then (l,⟨9,0⟩) else (l ++ [(a,n)],⟨0,0⟩):=rfl
  by_cases ha : at1 l a < l.length
  ·rw [if_pos ha]
   rw [hd,if_pos ha]
   simp only [za4]
   refine ⟨?_,fun i hi=>?_⟩
   ·rw [hset _ _ (by omega)]
    simp only [lastAt,List.foldl]
    rw [if_neg (by omega)]; exact hll
   ·rw [hset _ _ (by omega),hset _ _ (by omega),zey _ _ _ _ ha,ze5 _ _ _ _ ha]
    simp only [lastAt,List.foldl]
    rw [if_neg (by omega)]
    refine ⟨(hat i hi).1,?_⟩
    by_cases e : at1 l a = i
    ·rw [if_pos (by omega),if_pos e]
    ·rw [if_neg (by omega),if_neg e]; exact (hat i hi).2
  ·rw [hd,if_neg ha] at he' ⊢
   rw [if_neg ha]
   by_cases hf : 5 <= l.length
   ·rw [if_pos hf] at he'; simp at he'
   rw [if_neg hf]
   simp only [List.length_append,List.length_cons,List.length_nil]
   refine ⟨?_,fun i hi=>?_⟩
   ·rw [hset _ _ (by omega)]
    simp only [lastAt,List.foldl]
    rw [if_pos (by omega)]; omega
   ·rw [hset _ _ (by omega),hset _ _ (by omega)]
    simp only [lastAt,List.foldl]
    by_cases e : i < l.length
    ·rw [if_neg (by omega),if_neg (by omega),if_neg (by omega),if_neg (by omega),if_neg (by omega),if_neg (by omega)]
     rw [List.getD_eq_getElem?_getD (l:=l ++ [(a,n)]),List.getElem?_append_left e,<- List.getD_eq_getElem?_getD]
     exact hat i e
    ·have e2 : i = l.length:=by omega
     subst e2
     rw [if_neg (by omega),if_neg (by omega),if_pos (by omega),if_neg (by omega),if_pos (by omega)]
     simp
 ·rw [if_neg (by decide),if_neg (by decide),if_neg (by decide),if_neg (by decide)]
  have hd : (zbq l ⟨2,a,o,n⟩).1 = l:=by
   show (if ¬ at1 l a < l.length then (l,(⟨6,0⟩ : Rp)) else (l,⟨0,num l (at1 l a)⟩)).1 = l
   split <;> rfl
  rw [hd]
  exact ⟨hll,hat⟩
 ·rw [if_neg (by decide),if_pos rfl]
  have hd : zbq l ⟨3,a,o,n⟩ = if ¬ at1 l a < l.length then (l,⟨6,0⟩) else ((l.set (at1 l a) (l.getD (l.length - 1) (0,0))).take (l.length - 1),⟨0,num l (at1 l a)⟩):=rfl
  by_cases ha : at1 l a < l.length
  case neg=>rw [hd,if_pos ha] at he'; simp at he'
  rw [if_neg (by simpa using ha)] at hd
  rw [hd]
  simp only [zc2]
  have hpt : ∀ i,i < l.length - 1 -> ((l.set (at1 l a) (l.getD (l.length - 1) (0,0))).take (l.length - 1)).getD i (0,0) = if at1 l a = i then l.getD (l.length - 1) (0,0) else l.getD i (0,0):=fun i hi=>zev l _ i ha hi
  by_cases hb : at1 l a + 1 < l.length
  ·rw [if_pos hb]
   refine ⟨?_,fun i hi=>?_⟩
   ·rw [hset _ _ (by omega)]
    simp only [lastAt,List.foldl]
    rw [if_pos (by omega)]; omega
   ·rw [hset _ _ (by omega),hset _ _ (by omega),hpt i hi]
    simp only [lastAt,List.foldl]
    by_cases e : at1 l a = i
    ·rw [if_pos e]
     constructor
     ·rw [if_neg (by omega),if_neg (by omega),if_pos (by omega)]
     ·rw [if_neg (by omega),if_pos (by omega)]
    ·rw [if_neg e]
     constructor
     ·rw [if_neg (by omega),if_neg (by omega),if_neg (by omega)]; exact (hat i (by omega)).1
     ·rw [if_neg (by omega),if_neg (by omega),if_neg (by omega)]; exact (hat i (by omega)).2
  ·rw [if_neg hb]
   refine ⟨?_,fun i hi=>?_⟩
   ·rw [hset _ _ (by omega)]
    simp only [lastAt,List.foldl]
    rw [if_pos (by omega)]; omega
   ·rw [hset _ _ (by omega),hset _ _ (by omega),hpt i hi,if_neg (by omega)]
    simp only [lastAt,List.foldl]
    rw [if_neg (by omega),if_neg (by omega)]
    exact hat i (by omega)
 ·rw [if_neg (by decide),if_neg (by decide),if_pos rfl]
  have hd : zbq l ⟨4,a,o,n⟩ = if ¬ at1 l a < l.length then (l,⟨6,0⟩) else if ¬ (-1073741824 <= num l (at1 l a) + n /\ num l (at1 l a) + n <= 1073741824) then (l,⟨3,0⟩) else (zcG l (at1 l a) (num l (at1 l a) + n),⟨0,num l (at1 l a) + n⟩):=rfl
  by_cases ha : at1 l a < l.length
  case neg=>rw [hd,if_pos ha] at he'; simp at he'
  rw [hd,if_neg (by simpa using ha)] at he' ⊢
  by_cases hs : -1073741824 <= num l (at1 l a) + n /\ num l (at1 l a) + n <= 1073741824
  case neg=>rw [if_pos hs] at he'; simp at he'
  rw [if_neg (by simpa using hs)]
  simp only [za4]
  refine ⟨?_,fun i hi=>?_⟩
  ·rw [hset _ _ (by omega)]
   simp only [lastAt,List.foldl]
   rw [if_neg (by omega)]; exact hll
  ·rw [hset _ _ (by omega),hset _ _ (by omega),zey _ _ _ _ ha,ze5 _ _ _ _ ha]
   simp only [lastAt,List.foldl]
   rw [if_neg (by omega)]
   refine ⟨(hat i hi).1,?_⟩
   by_cases e : at1 l a = i
   ·rw [if_pos (by omega),if_pos e]
   ·rw [if_neg (by omega),if_neg e]; exact (hat i hi).2
 ·rw [if_neg (by decide),if_neg (by decide),if_neg (by decide),if_neg (by decide)]
  exact ⟨hll,hat⟩
 ·rw [if_neg (by decide),if_neg (by decide),if_neg (by decide),if_pos rfl]
  have hd : zbq l ⟨6,a,o,n⟩ = if ¬ at1 l a < l.length then (l,⟨6,0⟩) else if ¬ at1 l o < l.length then (l,⟨6,0⟩)
   else (zcG (zcG l (at1 l a) (num l (at1 l o))) (at1 l o) (num l (at1 l a)),⟨0,num l (at1 l o)⟩):=rfl
  by_cases ha : at1 l a < l.length
  case neg=>rw [hd,if_pos ha] at he'; simp at he'
  rw [hd,if_neg (by simpa using ha)] at he' ⊢
  by_cases hb : at1 l o < l.length
  case neg=>rw [if_pos hb] at he'; simp at he'
  rw [if_neg (by simpa using hb)]
  have hb2 : at1 l o < (zcG l (at1 l a) (num l (at1 l o))).length:=by rw [za4]; exact hb
  simp only [za4]
  refine ⟨?_,fun i hi=>?_⟩
  ·rw [hset _ _ (by omega)]
   simp only [lastAt,List.foldl]
   rw [if_neg (by omega),if_neg (by omega)]; exact hll
  ·rw [hset _ _ (by omega),hset _ _ (by omega),zey _ _ _ _ hb2,zey _ _ _ _ ha,ze5 _ _ _ _ hb2,ze5 _ _ _ _ ha]
   simp only [lastAt,List.foldl]
   rw [if_neg (by omega),if_neg (by omega)]
   refine ⟨(hat i hi).1,?_⟩
   by_cases e : at1 l o = i
   ·rw [if_pos (by omega),if_pos e]
   ·rw [if_neg (by omega),if_neg e]
    by_cases e2 : at1 l a = i
    ·rw [if_pos (by omega),if_pos e2]
    ·rw [if_neg (by omega),if_neg e2]; exact (hat i hi).2

theorem zma {xs : List Int} {c : Cl} (hx : zep xs = 0) (hc : wrongCl c = 0) :
  zep (zaH xs (zbm (zaO xs (xs.getD 0 0).toNat) c)) = 0 /\
  zaO (zaH xs (zbm (zaO xs (xs.getD 0 0).toNat) c)) ((zaH xs (zbm (zaO xs (xs.getD 0 0).toNat) c)).getD 0 0).toNat = (zbq (zaO xs (xs.getD 0 0).toNat) c).1:=by
 obtain ⟨hl,x0,x5,hok⟩:=(zhH xs).1 hx
 have hll : xs.getD 0 0 = ((zaO xs (xs.getD 0 0).toNat).length : Int):=by rw [zaR]; omega
 obtain ⟨h1,h2⟩:=zpa (c:=c) hl x0 hll (fun i hi=>by rw [zaR] at hi; rw [zcs _ _ _ hi]; exact ⟨rfl,rfl⟩) hok hc
 have e:=zm7 h1 h2
 refine ⟨?_,e⟩
 have hd:=zko hok hc
 rw [zhH,e]
 have:=hd.1.len
 exact ⟨by rw [zbU]; exact hl,by omega,by omega,hd.1⟩

open Go Go.RowKit

structure St where
 cells : List Int
 undo : List (Int × Int)
 answers : List An
 past : List Rq

theorem St.ext' {s t : St} (h1 : s.cells = t.cells) (h2 : s.undo = t.undo) (h3 : s.answers = t.answers) (h4 : s.past = t.past) : s = t:=by
 cases s; cases t; simp at *; exact ⟨h1,h2,h3,h4⟩

def newSt : St:=⟨List.replicate 11 0,[],[],[]⟩
def zax (s : St) (p : Int × Int) : St :=
 if 0 <= p.1 /\ p.1 < (s.cells.length : Int) then { s with cells:=zdc s.cells p,undo:=(p.1,s.cells.getD p.1.toNat 0) :: s.undo } else s
def zbA (s : St) : St:={ s with cells:=zaH s.cells s.undo,undo:=[] }
def zb2 : List An -> An -> List An
 | [],a=>[a]
 | x :: l,a=>if x.client = a.client then a :: l else x :: zb2 l a
def zb5 (s : St) (r : Rq) (says : Rp) : St:=⟨s.cells,[],zb2 s.answers ⟨r.client,r.token,says⟩,s.past ++ [r]⟩
def lastAn : List An -> Int -> An × Bool
 | [],_=>(zeroAn,false)
 | x :: l,c=>if x.client = c then (x,true) else lastAn l c
theorem zlH (l : List An) (a : An) : lastAn (zb2 l a) a.client = (a,true):=by
 induction l with
 | nil=>simp [zb2,lastAn]
 | cons x l ih =>
  unfold zb2
  by_cases h : x.client = a.client
  ·rw [if_pos h]; simp [lastAn]
  ·rw [if_neg h,lastAn,if_neg h]; exact ih
theorem zlT (l : List An) (a : An) (c : Int) (hc : c ≠ a.client) : lastAn (zb2 l a) c = lastAn l c:=by
 induction l with
 | nil=>simp [zb2,lastAn]; intro h; exact absurd h.symm hc
 | cons x l ih =>
  unfold zb2
  by_cases h : x.client = a.client
  ·rw [if_pos h,lastAn,lastAn,if_neg (fun e=>hc e.symm),if_neg (fun e=>hc (e.symm.trans h))]
  ·rw [if_neg h,lastAn,lastAn,ih]
theorem zkd (l : List An) (a : An) : (zb2 l a).length <= l.length + 1:=by
 induction l with
 | nil=>simp [zb2]
 | cons x l ih =>
  unfold zb2
  split
  ·simp
  ·simp; omega

theorem zng (s : St) (r : Rq) (says : Rp) : lastAn (zb5 s r says).answers r.client = (⟨r.client,r.token,says⟩,true):=zlH s.answers ⟨r.client,r.token,says⟩

theorem zm8 (xs : List Int) (p : Int × Int) (h0 : 0 <= p.1) (h1 : p.1 < (xs.length : Int)) : zdc (zdc xs p) (p.1,xs.getD p.1.toNat 0) = xs:=by
 obtain ⟨i,hi⟩ : ∃ i : Nat,p.1 = (i : Int):=⟨p.1.toNat,by omega⟩
 have hl : i < xs.length:=by omega
 have hlen : (zdc xs p).length = xs.length:=by have:=zbU xs [p]; simpa [zaH] using this
 have hlen2 : (zdc (zdc xs p) (p.1,xs.getD p.1.toNat 0)).length = xs.length:=by have:=zbU (zdc xs p) [(p.1,xs.getD p.1.toNat 0)]; rw [hlen] at this; simpa [zaH] using this
 refine List.ext_getElem? fun j=>?_
 by_cases hj : j < xs.length
 ·have a1:=zki (zdc xs p) (p.1,xs.getD p.1.toNat 0) j (by omega)
  have a2:=zki xs p j hj
  rw [a2] at a1
  rw [List.getD_eq_getElem?_getD,List.getElem?_eq_getElem (by omega)] at a1
  rw [List.getElem?_eq_getElem (by omega),List.getElem?_eq_getElem hj]
  simp only [Option.getD_some] at a1
  rw [a1]
  congr 1
  by_cases hp : p.1 = (j : Int)
  ·rw [if_pos hp,hp]; simp [hj]
  ·rw [if_neg hp,if_neg hp]; simp [hj]
 ·rw [List.getElem?_eq_none (by omega),List.getElem?_eq_none (by omega)]

theorem zlP (s : St) (p : Int × Int) : zbA (zax s p) = zbA s:=by
 unfold zax
 by_cases h : 0 <= p.1 /\ p.1 < (s.cells.length : Int)
 ·rw [if_pos h]
  unfold zbA
  refine St.ext' ?_ rfl rfl rfl
  show zaH (zdc s.cells p) ((p.1,s.cells.getD p.1.toNat 0) :: s.undo) = zaH s.cells s.undo
  have : zaH (zdc s.cells p) ((p.1,s.cells.getD p.1.toNat 0) :: s.undo) = zaH (zdc (zdc s.cells p) (p.1,s.cells.getD p.1.toNat 0)) s.undo:=rfl
  rw [this,zm8 _ _ h.1 h.2]
 ·rw [if_neg h]
theorem zkj (s : St) (p : Int × Int) : (zax s p).cells.length = s.cells.length:=by
 unfold zax
 split
 ·show (zdc s.cells p).length = _
  have:=zbU s.cells [p]; simpa [zaH] using this
 ·rfl
end Go.Mk

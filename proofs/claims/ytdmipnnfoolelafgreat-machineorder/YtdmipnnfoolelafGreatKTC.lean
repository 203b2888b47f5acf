/- Texts of the proof, merged: Math1 Math5 Math8 Math9 Mem4 Mem5 Read4 Read5 Mem6. -/
import Derived.Test.YtdmipnnfoolelafGreatKTB
import Derived.Test.YtdmipnnfoolelafGreatKTA
import Derived.ArgAppend

/- Chapter 1, plain mathematics: cells as lists of numbers. -/
namespace Go.Mk

def zcz (xs:List Int):Int:=if xs.length=0 then 0 else min (xs.getD 0 0) (((xs.length:Int) - 1) / 2)

def findIn (xs:List Int) (name:Int):Nat->Nat->Int
 | 0,_=>-1
 | n+1,i=>if xs.getD (1+2 * i) 0=name then (i:Int) else findIn xs name n (i+1)

theorem zjM {xs:List Int} {name n:Int} {k:Nat} (hlt:(k:Int) < n) (h:(xs.getD (1+2 * k) 0 == name)=true):findIn xs name (n.toNat - k) k=(k:Int):=by
 obtain ⟨m,hm⟩:∃ m,n.toNat - k=m+1:=⟨n.toNat - k - 1,by omega⟩
 rw [hm,findIn,if_pos (by simpa using h)]
theorem ziL {xs:List Int} {name n:Int} {k:Nat} (hlt:(k:Int) < n) (h:(xs.getD (1+2 * k) 0 == name)=false):findIn xs name (n.toNat - k) k=findIn xs name (n.toNat - (k+1)) (k+1):=by
 obtain ⟨m,hm⟩:∃ m,n.toNat - k=m+1:=⟨n.toNat - k - 1,by omega⟩
 rw [hm,findIn,if_neg (by simpa using h),show n.toNat - (k+1)=m by omega]
theorem zko {xs:List Int} {name n:Int} {k:Nat} (hlt:¬ (k:Int) < n):findIn xs name (n.toNat - k) k=-1:=by
 rw [show n.toNat - k=0 by omega,findIn]
def zg3 (xs:List Int) (i:Nat):Int :=
 if ¬ (1<=xs.getD (1+2 * i) 0/\xs.getD (1+2 * i) 0<=255)∨¬ (-1073741824<=xs.getD (2+2 * i) 0/\xs.getD (2+2 * i) 0<=1073741824) then 3
 else if 0<=findIn xs (xs.getD (1+2 * i) 0) i 0 then 7 else 0

def zjh (xs:List Int):Nat->Nat->Int
 | 0,_=>0
 | n+1,i=>if zg3 xs i=0 then zjh xs n (i+1) else zg3 xs i

def zeM (xs:List Int):Int :=
 if xs.length≠11 then 5 else if ¬ (0<=xs.getD 0 0/\xs.getD 0 0<=5) then 3 else zjh xs (xs.getD 0 0).toNat 0

def zdD (xs:List Int) (p:Int×Int):List Int:=if 0<=p.1/\p.1 < (xs.length:Int) then xs.set p.1.toNat p.2 else xs
def zaD (xs:List Int) (l:List (Int×Int)):List Int:=l.foldl zdD xs
def zbV (xs:List Int):List (Int×Int)->List (Int×Int)
 | []=>[]
 | p::l=>zbV (zdD xs p) l++(if 0<=p.1/\p.1 < (xs.length:Int) then [(p.1,xs.getD p.1.toNat 0)] else [])

theorem zgU (xs:List Int) (p:Int×Int):(zdD xs p).length=xs.length:=by unfold zdD; split <;> simp
theorem zb5 (xs:List Int) (l:List (Int×Int)):(zaD xs l).length=xs.length:=by
 induction l generalizing xs with
 | nil=>rfl
 | cons p l ih=>show (zaD (zdD xs p) l).length=_; rw [ih,zgU]

theorem zgB (xs:List Int) (l:List (Int×Int)) (p:Int×Int):zaD xs (l++[p])=zdD (zaD xs l) p:=by simp [zaD]

theorem zlN (xs:List Int) (l:List (Int×Int)) (p:Int×Int) :
  zbV xs (l++[p])=(if 0<=p.1/\p.1 < (xs.length:Int) then [(p.1,(zaD xs l).getD p.1.toNat 0)] else [])++zbV xs l:=by
 induction l generalizing xs with
 | nil=>simp [zbV,zaD]
 | cons q l ih =>
  show zbV (zdD xs q) (l++[p])++_=_++(zbV (zdD xs q) l++_)
  rw [ih,zgU,<- List.append_assoc]
  rfl

theorem zgM (xs:List Int) (l:List (Int×Int)):(zbV xs l).length<=l.length:=by
 induction l generalizing xs with
 | nil=>simp [zbV]
 | cons p l ih =>
  rw [zbV,List.length_append]
  have:=ih (zdD xs p)
  simp only [List.length_cons]
  split <;> simp <;> omega

def rv (us:List (Int×Int)) (k:Nat):List (Int×Int):=(List.range us.length).map fun i=>if i < k∨us.length<=i+k then us.getD (us.length - 1 - i) (0,0) else us.getD i (0,0)
theorem ziq (us:List (Int×Int)) (k:Nat):(rv us k).length=us.length:=by simp [rv]
theorem getElem?_rv (us:List (Int×Int)) (k i:Nat):(rv us k)[i]?=if i < us.length then some (if i < k∨us.length<=i+k then us.getD (us.length - 1 - i) (0,0) else us.getD i (0,0)) else none:=by
 unfold rv
 rw [List.getElem?_map]
 by_cases h:i < us.length
 ·simp [h]
 ·simp [h]
theorem zrU (us:List (Int×Int)):rv us 0=us:=by
 apply List.ext_getElem?
 intro i
 rw [getElem?_rv]
 by_cases h:i < us.length
 ·rw [if_pos h,if_neg (by omega)]
  simp [h]
 ·rw [if_neg h]
  simp [h]
theorem zsp (us:List (Int×Int)) (k:Nat) (h:us.length<=2 * k+1):rv us k=us.reverse:=by
 apply List.ext_getElem?
 intro i
 rw [getElem?_rv]
 by_cases hi:i < us.length
 ·rw [if_pos hi,List.getElem?_reverse hi]
  have h1:us.length - 1 - i < us.length:=by omega
  by_cases hc:i < k∨us.length<=i+k
  ·rw [if_pos hc]
   simp [h1]
  ·rw [if_neg hc,show us.length - 1 - i=i by omega]
   simp [hi]
 ·rw [if_neg hi]
  rw [List.getElem?_eq_none (by simp; omega)]
theorem zr5 (us:List (Int×Int)) (k:Nat) (h:2 * k+1 < us.length):rv us (k+1)=((rv us k).set k (us.getD (us.length - 1 - k) (0,0))).set (us.length - 1 - k) (us.getD k (0,0)):=by
 apply List.ext_getElem?
 intro i
 rw [getElem?_rv,List.getElem?_set,List.length_set,ziq,List.getElem?_set,ziq,getElem?_rv]
 by_cases hi:i < us.length
 ·rw [if_pos hi]
  by_cases h1:us.length - 1 - k=i
  ·rw [if_pos h1,if_pos (by omega),if_pos (by omega),show us.length - 1 - i=k by omega]
  ·rw [if_neg h1]
   by_cases h2:k=i
   ·subst h2
    rw [if_pos rfl,if_pos hi,if_pos (by omega)]
   ·rw [if_neg h2,if_pos hi]
    by_cases h3:i < k∨us.length<=i+k
    ·rw [if_pos h3,if_pos (by omega)]
    ·rw [if_neg h3,if_neg (by omega)]
 ·rw [if_neg hi,if_neg (by omega),if_neg (by omega),if_neg hi]
theorem ztg (us:List (Int×Int)) (k:Nat) (h:2 * k+1 < us.length):(rv us k).getD k (0,0)=us.getD k (0,0)/\(rv us k).getD (us.length - 1 - k) (0,0)=us.getD (us.length - 1 - k) (0,0):=by
 constructor
 ·rw [List.getD_eq_getElem?_getD,getElem?_rv,if_pos (by omega),if_neg (by omega)]; rfl
 ·rw [List.getD_eq_getElem?_getD,getElem?_rv,if_pos (by omega),if_neg (by omega)]; rfl

def lastAt (l:List (Int×Int)) (i:Int) (n:Int):Int:=l.foldl (fun n p=>if p.1=i then p.2 else n) n
theorem znm (l:List (Int×Int)) (p:Int×Int) (i n:Int):lastAt (l++[p]) i n=if p.1=i then p.2 else lastAt l i n:=by simp [lastAt]
theorem zlM (xs:List Int) (p:Int×Int) (i:Nat) (hi:i < xs.length):(zdD xs p).getD i 0=if p.1=(i:Int) then p.2 else xs.getD i 0:=by
 unfold zdD
 by_cases h:0<=p.1/\p.1 < (xs.length:Int)
 ·rw [if_pos h]
  by_cases he:p.1=(i:Int)
  ·rw [if_pos he,show p.1.toNat=i by omega]
   simp [hi]
  ·rw [if_neg he,List.getD_eq_getElem?_getD,List.getElem?_set_ne (by omega),List.getD_eq_getElem?_getD]
 ·rw [if_neg h,if_neg (by omega)]
theorem zln (xs:List Int) (l:List (Int×Int)) (i:Nat) (hi:i < xs.length):(zaD xs l).getD i 0=lastAt l i (xs.getD i 0):=by
 induction l generalizing xs with
 | nil=>rfl
 | cons p l ih =>
  show (zaD (zdD xs p) l).getD i 0=lastAt l i (if p.1=(i:Int) then p.2 else xs.getD i 0)
  rw [ih _ (by rw [zgU]; exact hi),zlM xs p i hi]
theorem zno (xs:List Int) (l:List (Int×Int)) (k:Nat) (hk:k < xs.length):(zaD xs l).take (k+1)=(zaD xs l).take k++[lastAt l k (xs.getD k 0)]:=by
 rw [<- zln xs l k hk,List.take_add_one]
 have:k < (zaD xs l).length:=by rw [zb5]; exact hk
 simp [this]

open Go Go.RowKit

theorem zcL (xs:List Int) (n i:Nat) (h:i < n):(zaN xs n).getD i (0,0)=(xs.getD (1+2 * i) 0,xs.getD (1+2 * i+1) 0):=by
 simp [zaN,List.getD_eq_getElem?_getD,h]

/-! ### Right cells are cells whose zd8 are right -/

theorem zli (xs:List Int) (name:Int):∀ n i,findIn xs name n i < 0↔∀ j,i<=j->j < i+n->xs.getD (1+2 * j) 0≠name
 | 0,i=>by
  constructor
  ·intro _ j h1 h2; omega
  ·intro _; simp [findIn]
 | n+1,i=>by
  rw [findIn]
  by_cases h:xs.getD (1+2 * i) 0=name
  ·rw [if_pos h]
   constructor
   ·intro h2; omega
   ·intro h2; exact absurd h (h2 i (Nat.le_refl _) (by omega))
  ·rw [if_neg h,zli xs name n (i+1)]
   constructor
   ·intro h2 j h3 h4
    by_cases e:j=i
    ·rw [e]; exact h
    ·exact h2 j (by omega) (by omega)
   ·intro h2 j h3 h4
    exact h2 j (by omega) (by omega)
theorem zii (xs:List Int):∀ n i,zjh xs n i=0↔∀ j,i<=j->j < i+n->zg3 xs j=0
 | 0,i=>by
  constructor
  ·intro _ j h1 h2; omega
  ·intro _; rfl
 | n+1,i=>by
  rw [zjh]
  by_cases h:zg3 xs i=0
  ·rw [if_pos h,zii xs n (i+1)]
   constructor
   ·intro h2 j h3 h4
    by_cases e:j=i
    ·rw [e]; exact h
    ·exact h2 j (by omega) (by omega)
   ·intro h2 j h3 h4
    exact h2 j (by omega) (by omega)
  ·rw [if_neg h]
   constructor
   ·intro h2; exact absurd h2 h
   ·intro h2; exact absurd (h2 i (Nat.le_refl _) (by omega)) h
theorem zgl (xs:List Int) (i:Nat):zg3 xs i=0↔(1<=xs.getD (1+2 * i) 0/\xs.getD (1+2 * i) 0<=255/\-1073741824<=xs.getD (1+2 * i+1) 0/\xs.getD (1+2 * i+1) 0<=1073741824)/\∀ j,j < i->xs.getD (1+2 * j) 0≠xs.getD (1+2 * i) 0:=by
 unfold zg3
 rw [show 2+2 * i=1+2 * i+1 by omega]
 have hf:=zli xs (xs.getD (1+2 * i) 0) i 0
 by_cases h1:¬ (1<=xs.getD (1+2 * i) 0/\xs.getD (1+2 * i) 0<=255)∨¬ (-1073741824<=xs.getD (1+2 * i+1) 0/\xs.getD (1+2 * i+1) 0<=1073741824)
 ·rw [if_pos h1]
  constructor
  ·intro h; cases h
  ·intro h; omega
 ·rw [if_neg h1]
  by_cases h2:0<=findIn xs (xs.getD (1+2 * i) 0) i 0
  ·rw [if_pos h2]
   constructor
   ·intro h; cases h
   ·intro h
    have:=hf.2 (fun j _ h4=>h.2 j (by omega))
    omega
  ·rw [if_neg h2]
   constructor
   ·intro _
    exact ⟨by omega,fun j hj=>hf.1 (by omega) j (Nat.zero_le _) (by omega)⟩
   ·intro _; rfl
theorem zg6 (xs:List Int):zeM xs=0↔xs.length=11/\0<=xs.getD 0 0/\xs.getD 0 0<=5/\Okn (zaN xs (xs.getD 0 0).toNat):=by
 unfold zeM
 by_cases h1:xs.length≠11
 ·rw [if_pos h1]
  constructor
  ·intro h; cases h
  ·intro h; exact absurd h.1 h1
 rw [if_neg h1]
 by_cases h2:¬ (0<=xs.getD 0 0/\xs.getD 0 0<=5)
 ·rw [if_pos h2]
  constructor
  ·intro h; cases h
  ·intro h; exact absurd ⟨h.2.1,h.2.2.1⟩ h2
 rw [if_neg h2,zii]
 have hx:0<=xs.getD 0 0/\xs.getD 0 0<=5:=by simpa using h2
 constructor
 ·intro h
  refine ⟨by simpa using h1,hx.1,hx.2,zjS (by rw [zaV]; omega) (fun i hi=>?_) (fun i j hij hj=>?_)⟩
  ·rw [zaV] at hi
   rw [zcL _ _ _ hi]
   exact ((zgl xs i).1 (h i (Nat.zero_le _) (by omega))).1
  ·rw [zaV] at hj
   rw [zcL _ _ _ hj,zcL _ _ _ (by omega)]
   exact ((zgl xs j).1 (h j (Nat.zero_le _) (by omega))).2 i hij
 ·rintro ⟨_,_,_,hok⟩ j _ hj
  have hjl:j < (xs.getD 0 0).toNat:=by omega
  rw [zgl]
  have ha:=hok.at (i:=j) (by rw [zaV]; exact hjl)
  rw [zcL _ _ _ hjl] at ha
  refine ⟨ha,fun i hi e=>?_⟩
  have:=hok.uni (i:=i) (j:=j) (by rw [zaV]; omega) (by rw [zaV]; exact hjl) (by rw [zcL _ _ _ hjl,zcL _ _ _ (by omega)]; exact e)
  omega
theorem zch (xs:List Int) (name:Int) (n:Nat):findIn xs name n 0=if at1 (zaN xs n) name < n then (at1 (zaN xs n) name:Int) else -1:=by
 have key:∀ m i,i+m=n->(∀ j,j < i->xs.getD (1+2 * j) 0≠name)->findIn xs name m i=if at1 (zaN xs n) name < n then (at1 (zaN xs n) name:Int) else -1:=by
  intro m
  induction m with
  | zero =>
   intro i hi hb
   have:at1 (zaN xs n) name=(zaN xs n).length:=zia (fun j hj=>by rw [zaV] at hj; rw [zcL _ _ _ hj]; exact hb j (by omega))
   rw [zaV] at this
   rw [findIn,if_neg (by omega)]
  | succ m ih =>
   intro i hi hb
   rw [findIn]
   by_cases h:xs.getD (1+2 * i) 0=name
   ·have:at1 (zaN xs n) name=i:=zlL (by rw [zaV]; omega) (by rw [zcL _ _ _ (by omega)]; exact h) (fun j hj=>by rw [zcL _ _ _ (by omega)]; exact hb j hj)
    rw [if_pos h,this,if_pos (by omega)]
   ·rw [if_neg h]
    refine ih (i+1) (by omega) (fun j hj=>?_)
    by_cases e:j=i
    ·rw [e]; exact h
    ·exact hb j (by omega)
 exact key n 0 (by omega) (fun j hj=>by omega)

/-! ### The writes of a call -/

def zfx (xs:List Int):Prop:=xs.length=11/\0<=xs.getD 0 0/\xs.getD 0 0<=5/\Okw (zaN xs (xs.getD 0 0).toNat)
theorem zfx.c {xs:List Int} (h:zfx xs):xs.length=11/\0<=xs.getD 0 0/\xs.getD 0 0<=5:=⟨h.1,h.2.1,h.2.2.1⟩
theorem zoP {xs:List Int} (h:zeM xs=0):zfx xs:=by
 obtain ⟨h1,h2,h3,h4⟩:=(zg6 xs).1 h
 exact ⟨h1,h2,h3,h4.w⟩

def zcZ (l:List (Int×Int)) (c:Cl):List (Int×Int) :=
 if c.kind=1 then
  if at1 l c.name < l.length then [(2+2 * (at1 l c.name:Int),c.n)] else [(1+2 * (l.length:Int),c.name),(2+2 * (l.length:Int),c.n),(0,(l.length:Int)+1)]
 else if c.kind=3 then
  if at1 l c.name+1 < l.length then [(1+2 * (at1 l c.name:Int),(l.getD (l.length - 1) (0,0)).1),(2+2 * (at1 l c.name:Int),(l.getD (l.length - 1) (0,0)).2),(0,(l.length:Int) - 1)] else [(0,(l.length:Int) - 1)]
 else if c.kind=4 then [(2+2 * (at1 l c.name:Int),num l (at1 l c.name)+c.n)]
 else if c.kind=6 then [(2+2 * (at1 l c.name:Int),num l (at1 l c.other)),(2+2 * (at1 l c.other:Int),num l (at1 l c.name))]
 else []

def zbq (l:List (Int×Int)) (c:Cl):List (Int×Int):=if (zbw l c).2.err≠0 then [] else zcZ l c

theorem zkr (l:List (Int×Int)) (c:Cl):(zbq l c).length<=3:=by
 unfold zbq zcZ
 repeat' split
 all_goals simp

theorem zpy {ds:List Int} {l:List (Int×Int)} (h0:ds.getD 0 0=(l.length:Int)) (hp:∀ i,i < l.length->ds.getD (1+2 * i) 0=(l.getD i (0,0)).1/\ds.getD (1+2 * i+1) 0=(l.getD i (0,0)).2):zaN ds (ds.getD 0 0).toNat=l:=by
 rw [h0]
 refine zm8 (by rw [zaV]; omega) fun i hi=>?_
 rw [zaV] at hi
 rw [zcL _ _ _ hi]
 have:=hp i (by omega)
 exact Prod.ext this.1 this.2

theorem zrE {xs:List Int} {c:Cl} {l:List (Int×Int)} (hl:xs.length=11) (x0:0<=xs.getD 0 0) (hll:xs.getD 0 0=(l.length:Int)) (hat:∀ i,i < l.length->xs.getD (1+2 * i) 0=(l.getD i (0,0)).1/\xs.getD (1+2 * i+1) 0=(l.getD i (0,0)).2)
  (hok:Okn l) (hc:wrongCl c=0) :
  (zaD xs (zbq l c)).getD 0 0=((zbw l c).1.length:Int)/\∀ i,i < (zbw l c).1.length->(zaD xs (zbq l c)).getD (1+2 * i) 0=((zbw l c).1.getD i (0,0)).1/\(zaD xs (zbq l c)).getD (1+2 * i+1) 0=((zbw l c).1.getD i (0,0)).2:=by
 have h5:=hok.len
 have hset:∀ W j,j < 11->(zaD xs W).getD j 0=lastAt W j (xs.getD j 0):=fun W j hj=>zln xs W j (by omega)
 have hkk:=zlW hok hc
 by_cases he:(zbw l c).2.err≠0
 ·have e1:zbq l c=[]:=by unfold zbq; rw [if_pos he]
  have e2:(zbw l c).1=l:=by
   rcases hkk.2.1 with h | h
   ·exact absurd h he
   ·exact h.2
  rw [e1,e2]
  exact ⟨hll,hat⟩
 have he':(zbw l c).2.err=0:=by simpa using he
 rw [show zbq l c=zcZ l c from if_neg he]
 clear hkk
 unfold zcZ
 obtain ⟨k,a,o,n⟩:=c
 simp only
 have hk:k=1∨k=2∨k=3∨k=4∨k=5∨k=6:=by
  unfold wrongCl at hc
  split at hc
  ·cases hc
  ·rename_i h; simp at h; omega
 rcases hk with rfl | rfl | rfl | rfl | rfl | rfl
 ·rw [if_pos rfl]
  have hd:zbw l ⟨1,a,o,n⟩=if at1 l a < l.length then (zc2 l (at1 l a) n,⟨0,num l (at1 l a)⟩) else if 5<=l.length then (l,⟨9,0⟩) else (l++[(a,n)],⟨0,0⟩):=rfl
  by_cases ha:at1 l a < l.length
  ·rw [if_pos ha]
   rw [hd,if_pos ha]
   simp only [za5]
   refine ⟨?_,fun i hi=>?_⟩
   ·rw [hset _ _ (by omega)]
    simp only [lastAt,List.foldl]
    rw [if_neg (by omega)]; exact hll
   ·rw [hset _ _ (by omega),hset _ _ (by omega),zeY _ _ _ _ ha,zfX _ _ _ _ ha]
    simp only [lastAt,List.foldl]
    rw [if_neg (by omega)]
    refine ⟨(hat i hi).1,?_⟩
    by_cases e:at1 l a=i
    ·rw [if_pos (by omega),if_pos e]
    ·rw [if_neg (by omega),if_neg e]; exact (hat i hi).2
  ·rw [hd,if_neg ha] at he' ⊢
   rw [if_neg ha]
   by_cases hf:5<=l.length
   ·rw [if_pos hf] at he'; simp at he'
   rw [if_neg hf]
   simp only [List.length_append,List.length_cons,List.length_nil]
   refine ⟨?_,fun i hi=>?_⟩
   ·rw [hset _ _ (by omega)]
    simp only [lastAt,List.foldl]
    rw [if_pos (by omega)]; omega
   ·rw [hset _ _ (by omega),hset _ _ (by omega)]
    simp only [lastAt,List.foldl]
    by_cases e:i < l.length
    ·rw [if_neg (by omega),if_neg (by omega),if_neg (by omega),if_neg (by omega),if_neg (by omega),if_neg (by omega)]
     rw [List.getD_eq_getElem?_getD (l:=l++[(a,n)]),List.getElem?_append_left e,<- List.getD_eq_getElem?_getD]
     exact hat i e
    ·have e2:i=l.length:=by omega
     subst e2
     rw [if_neg (by omega),if_neg (by omega),if_pos (by omega),if_neg (by omega),if_pos (by omega)]
     simp
 ·rw [if_neg (by decide),if_neg (by decide),if_neg (by decide),if_neg (by decide)]
  have hd:(zbw l ⟨2,a,o,n⟩).1=l:=by
   show (if ¬ at1 l a < l.length then (l,(⟨6,0⟩:Rp)) else (l,⟨0,num l (at1 l a)⟩)).1=l
   split <;> rfl
  rw [hd]
  exact ⟨hll,hat⟩
 ·rw [if_neg (by decide),if_pos rfl]
  have hd:zbw l ⟨3,a,o,n⟩=if ¬ at1 l a < l.length then (l,⟨6,0⟩) else ((l.set (at1 l a) (l.getD (l.length - 1) (0,0))).take (l.length - 1),⟨0,num l (at1 l a)⟩):=rfl
  by_cases ha:at1 l a < l.length
  case neg=>rw [hd,if_pos ha] at he'; simp at he'
  rw [if_neg (by simpa using ha)] at hd
  rw [hd]
  simp only [zdu]
  have hpt:∀ i,i < l.length - 1->((l.set (at1 l a) (l.getD (l.length - 1) (0,0))).take (l.length - 1)).getD i (0,0)=if at1 l a=i then l.getD (l.length - 1) (0,0) else l.getD i (0,0):=fun i hi=>zeR l _ i ha hi
  by_cases hb:at1 l a+1 < l.length
  ·rw [if_pos hb]
   refine ⟨?_,fun i hi=>?_⟩
   ·rw [hset _ _ (by omega)]
    simp only [lastAt,List.foldl]
    rw [if_pos (by omega)]; omega
   ·rw [hset _ _ (by omega),hset _ _ (by omega),hpt i hi]
    simp only [lastAt,List.foldl]
    by_cases e:at1 l a=i
    ·rw [if_pos e]
     constructor
     ·rw [if_neg (by omega),if_neg (by omega),if_pos (by omega)]
     ·rw [if_neg (by omega),if_pos (by omega)]
    ·rw [if_neg e]
     constructor
     ·rw [if_neg (by omega),if_neg (by omega),if_neg (by omega)]; exact (hat i (by omega)).1
     ·rw [if_neg (by omega),if_neg (by omega),if_neg (by omega)]; exact (hat i (by omega)).2
  ·rw [if_neg hb]
   refine ⟨?_,fun i hi=>?_⟩
   ·rw [hset _ _ (by omega)]
    simp only [lastAt,List.foldl]
    rw [if_pos (by omega)]; omega
   ·rw [hset _ _ (by omega),hset _ _ (by omega),hpt i hi,if_neg (by omega)]
    simp only [lastAt,List.foldl]
    rw [if_neg (by omega),if_neg (by omega)]
    exact hat i (by omega)
 ·rw [if_neg (by decide),if_neg (by decide),if_pos rfl]
  have hd:zbw l ⟨4,a,o,n⟩=if ¬ at1 l a < l.length then (l,⟨6,0⟩) else if ¬ (-1073741824<=num l (at1 l a)+n/\num l (at1 l a)+n<=1073741824) then (l,⟨3,0⟩) else (zc2 l (at1 l a) (num l (at1 l a)+n),⟨0,num l (at1 l a)+n⟩):=rfl
  by_cases ha:at1 l a < l.length
  case neg=>rw [hd,if_pos ha] at he'; simp at he'
  rw [hd,if_neg (by simpa using ha)] at he' ⊢
  by_cases hs:-1073741824<=num l (at1 l a)+n/\num l (at1 l a)+n<=1073741824
  case neg=>rw [if_pos hs] at he'; simp at he'
  rw [if_neg (by simpa using hs)]
  simp only [za5]
  refine ⟨?_,fun i hi=>?_⟩
  ·rw [hset _ _ (by omega)]
   simp only [lastAt,List.foldl]
   rw [if_neg (by omega)]; exact hll
  ·rw [hset _ _ (by omega),hset _ _ (by omega),zeY _ _ _ _ ha,zfX _ _ _ _ ha]
   simp only [lastAt,List.foldl]
   rw [if_neg (by omega)]
   refine ⟨(hat i hi).1,?_⟩
   by_cases e:at1 l a=i
   ·rw [if_pos (by omega),if_pos e]
   ·rw [if_neg (by omega),if_neg e]; exact (hat i hi).2
 ·rw [if_neg (by decide),if_neg (by decide),if_neg (by decide),if_neg (by decide)]
  exact ⟨hll,hat⟩
 ·rw [if_neg (by decide),if_neg (by decide),if_neg (by decide),if_pos rfl]
  have hd:zbw l ⟨6,a,o,n⟩=if ¬ at1 l a < l.length then (l,⟨6,0⟩) else if ¬ at1 l o < l.length then (l,⟨6,0⟩)
   else (zc2 (zc2 l (at1 l a) (num l (at1 l o))) (at1 l o) (num l (at1 l a)),⟨0,num l (at1 l o)⟩):=rfl
  by_cases ha:at1 l a < l.length
  case neg=>rw [hd,if_pos ha] at he'; simp at he'
  rw [hd,if_neg (by simpa using ha)] at he' ⊢
  by_cases hb:at1 l o < l.length
  case neg=>rw [if_pos hb] at he'; simp at he'
  rw [if_neg (by simpa using hb)]
  have hb2:at1 l o < (zc2 l (at1 l a) (num l (at1 l o))).length:=by rw [za5]; exact hb
  simp only [za5]
  refine ⟨?_,fun i hi=>?_⟩
  ·rw [hset _ _ (by omega)]
   simp only [lastAt,List.foldl]
   rw [if_neg (by omega),if_neg (by omega)]; exact hll
  ·rw [hset _ _ (by omega),hset _ _ (by omega),zeY _ _ _ _ hb2,zeY _ _ _ _ ha,zfX _ _ _ _ hb2,zfX _ _ _ _ ha]
   simp only [lastAt,List.foldl]
   rw [if_neg (by omega),if_neg (by omega)]
   refine ⟨(hat i hi).1,?_⟩
   by_cases e:at1 l o=i
   ·rw [if_pos (by omega),if_pos e]
   ·rw [if_neg (by omega),if_neg e]
    by_cases e2:at1 l a=i
    ·rw [if_pos (by omega),if_pos e2]
    ·rw [if_neg (by omega),if_neg e2]; exact (hat i hi).2

theorem znJ {xs:List Int} {c:Cl} (hx:zeM xs=0) (hc:wrongCl c=0) :
  zeM (zaD xs (zbq (zaN xs (xs.getD 0 0).toNat) c))=0 /\
  zaN (zaD xs (zbq (zaN xs (xs.getD 0 0).toNat) c)) ((zaD xs (zbq (zaN xs (xs.getD 0 0).toNat) c)).getD 0 0).toNat=(zbw (zaN xs (xs.getD 0 0).toNat) c).1:=by
 obtain ⟨hl,x0,x5,hok⟩:=(zg6 xs).1 hx
 have hll:xs.getD 0 0=((zaN xs (xs.getD 0 0).toNat).length:Int):=by rw [zaV]; omega
 obtain ⟨h1,h2⟩:=zrE (c:=c) hl x0 hll (fun i hi=>by rw [zaV] at hi; rw [zcL _ _ _ hi]; exact ⟨rfl,rfl⟩) hok hc
 have e:=zpy h1 h2
 refine ⟨?_,e⟩
 have hd:=zlW hok hc
 rw [zg6,e]
 have:=hd.1.len
 exact ⟨by rw [zb5]; exact hl,by omega,by omega,hd.1⟩

open Go Go.RowKit

structure St where
 cells:List Int
 undo:List (Int×Int)
 answers:List An
 past:List Rq

theorem St.ext' {s t:St} (h1:s.cells=t.cells) (h2:s.undo=t.undo) (h3:s.answers=t.answers) (h4:s.past=t.past):s=t:=by
 cases s; cases t; simp at *; exact ⟨h1,h2,h3,h4⟩

def newSt:St:=⟨List.replicate 11 0,[],[],[]⟩
def zau (s:St) (p:Int×Int):St :=
 if 0<=p.1/\p.1 < (s.cells.length:Int) then { s with cells:=zdD s.cells p,undo:=(p.1,s.cells.getD p.1.toNat 0)::s.undo } else s
def zbF (s:St):St:={ s with cells:=zaD s.cells s.undo,undo:=[] }
def zci:List An->An->List An
 | [],a=>[a]
 | x::l,a=>if x.client=a.client then a::l else x::zci l a
def zb3 (s:St) (r:Rq) (says:Rp):St:=⟨s.cells,[],zci s.answers ⟨r.client,r.token,says⟩,s.past++[r]⟩
def lastAn:List An->Int->An×Bool
 | [],_=>(zeroAn,false)
 | x::l,c=>if x.client=c then (x,true) else lastAn l c
theorem zmW (l:List An) (a:An):lastAn (zci l a) a.client=(a,true):=by
 induction l with
 | nil=>simp [zci,lastAn]
 | cons x l ih =>
  unfold zci
  by_cases h:x.client=a.client
  ·rw [if_pos h]; simp [lastAn]
  ·rw [if_neg h,lastAn,if_neg h]; exact ih
theorem znC (l:List An) (a:An) (c:Int) (hc:c≠a.client):lastAn (zci l a) c=lastAn l c:=by
 induction l with
 | nil=>simp [zci,lastAn]; intro h; exact absurd h.symm hc
 | cons x l ih =>
  unfold zci
  by_cases h:x.client=a.client
  ·rw [if_pos h,lastAn,lastAn,if_neg (fun e=>hc e.symm),if_neg (fun e=>hc (e.symm.trans h))]
  ·rw [if_neg h,lastAn,lastAn,ih]
theorem zh0 (l:List An) (a:An):(zci l a).length<=l.length+1:=by
 induction l with
 | nil=>simp [zci]
 | cons x l ih =>
  unfold zci
  split
  ·simp
  ·simp; omega

theorem zpM (s:St) (r:Rq) (says:Rp):lastAn (zb3 s r says).answers r.client=(⟨r.client,r.token,says⟩,true):=zmW s.answers ⟨r.client,r.token,says⟩

theorem zpW (xs:List Int) (p:Int×Int) (h0:0<=p.1) (h1:p.1 < (xs.length:Int)):zdD (zdD xs p) (p.1,xs.getD p.1.toNat 0)=xs:=by
 obtain ⟨i,hi⟩:∃ i:Nat,p.1=(i:Int):=⟨p.1.toNat,by omega⟩
 have hl:i < xs.length:=by omega
 have hlen:(zdD xs p).length=xs.length:=by have:=zb5 xs [p]; simpa [zaD] using this
 have hlen2:(zdD (zdD xs p) (p.1,xs.getD p.1.toNat 0)).length=xs.length:=by have:=zb5 (zdD xs p) [(p.1,xs.getD p.1.toNat 0)]; rw [hlen] at this; simpa [zaD] using this
 refine List.ext_getElem? fun j=>?_
 by_cases hj:j < xs.length
 ·have a1:=zlM (zdD xs p) (p.1,xs.getD p.1.toNat 0) j (by omega)
  have a2:=zlM xs p j hj
  rw [a2] at a1
  rw [List.getD_eq_getElem?_getD,List.getElem?_eq_getElem (by omega)] at a1
  rw [List.getElem?_eq_getElem (by omega),List.getElem?_eq_getElem hj]
  simp only [Option.getD_some] at a1
  rw [a1]
  congr 1
  by_cases hp:p.1=(j:Int)
  ·rw [if_pos hp,hp]; simp [hj]
  ·rw [if_neg hp,if_neg hp]; simp [hj]
 ·rw [List.getElem?_eq_none (by omega),List.getElem?_eq_none (by omega)]

theorem znz (s:St) (p:Int×Int):zbF (zau s p)=zbF s:=by
 unfold zau
 by_cases h:0<=p.1/\p.1 < (s.cells.length:Int)
 ·rw [if_pos h]
  unfold zbF
  refine St.ext' ?_ rfl rfl rfl
  show zaD (zdD s.cells p) ((p.1,s.cells.getD p.1.toNat 0)::s.undo)=zaD s.cells s.undo
  have:zaD (zdD s.cells p) ((p.1,s.cells.getD p.1.toNat 0)::s.undo)=zaD (zdD (zdD s.cells p) (p.1,s.cells.getD p.1.toNat 0)) s.undo:=rfl
  rw [this,zpW _ _ h.1 h.2]
 ·rw [if_neg h]
theorem zlR (s:St) (p:Int×Int):(zau s p).cells.length=s.cells.length:=by
 unfold zau
 split
 ·show (zdD s.cells p).length=_
  have:=zb5 s.cells [p]; simpa [zaD] using this
 ·rfl
open Go Go.RowKit

structure Sv where
 gen:Int
 box:List (List UInt8)
 busy:Bool
 now:Rq
 plan:List (Int×Int)
 says:Rp

structure Cn where
 calls:List Cl
 at_:Int
 sent:Bool
 gen:Int
 box:List (List UInt8)
 got:List Rp

structure Mc where
 store:St
 server:Sv
 up:Bool
 pause:Int
 falls:Int
 clients:List Cn

def zbM (gen:Int) (box:List (List UInt8)):Sv:=⟨gen,box,false,zeroRq,[],⟨0,0⟩⟩

def zbY (v:Sv) (b:List UInt8):Sv×Int:=if 3<=v.box.length then (v,9) else ({ v with box:=v.box++[b] },0)

def zbR (xs:List Int):List (Int×Int):=zaN xs (xs.getD 0 0).toNat

def zaz (s:St) (v:Sv):St×Sv×List UInt8×Int :=
 if v.busy then
  match v.plan with
  | p::l=>(zau s p,{ v with plan:=l },[],0)
  | []=>(zb3 s v.now v.says,zbM v.gen v.box,zb1 ⟨v.now.client,v.now.token,v.says⟩,0)
 else
  match v.box with
  | []=>(s,v,[],12)
  | b::l =>
   let v':Sv:={ v with box:=l }
   if (readRq b).2≠0 then (s,v',[],0)
   else
    let r:=(readRq b).1
    let a:=lastAn s.answers r.client
    if a.2/\r.token<=a.1.token then
     if a.1.token=r.token then (s,v',zb1 a.1,0) else (s,v',[],0)
    else (s,{ v' with busy:=true,now:=r,plan:=zbq (zbR s.cells) r.call,says:=(zbw (zbR s.cells) r.call).2 },[],0)

def pauseOf (falls:Int):Int:=if falls < 1 then 1 else if 3 < falls then 3 else falls

def zd5 (m:Mc):Mc×Int :=
 if ¬ m.up then (m,11) else if 6<=m.falls then (m,5)
 else ({ m with falls:=m.falls+1,up:=false,pause:=pauseOf (m.falls+1),server:=zbM m.server.gen [] },0)

def za6 (m:Mc):Mc :=
 if m.up then m else if 1 < m.pause then { m with pause:=m.pause - 1 }
 else { m with up:=true,pause:=0,store:=zbF m.store,server:=zbM (m.server.gen+1) [] }

def zcy (c:Cn) (me gen:Int) (up:Bool):Cn×List UInt8×Int :=
 match c.box with
 | b::l =>
  let c':Cn:={ c with box:=l }
  let a:=readAn b
  if a.2=0/\a.1.client=me/\a.1.token=c.at_/\c.sent=true then ({ c' with got:=c.got++[a.1.reply],at_:=c.at_+1,sent:=false },[],0)
  else (c',[],0)
 | [] =>
  if (c.calls.length:Int)<=c.at_ then (c,[],11)
  else if ¬ up then (c,[],10)
  else if c.sent/\c.gen=gen then (c,[],12)
  else ({ c with sent:=true,gen:=gen },zbA ⟨me,c.at_,c.calls.getD c.at_.toNat ⟨0,0,0,0⟩⟩,0)

def zcg (c:Cn) (b:List UInt8):Cn:=if c.box.length < 3 then { c with box:=c.box++[b] } else c

def zbO (calls:List Cl):Cn:=⟨calls,0,false,0,[],[]⟩
def za1 (l:List (List Cl)):Mc:=⟨newSt,zbM 0 [],true,0,0,l.map zbO⟩
def za8 (l:List (List Cl)):Prop:=l.length<=3/\∀ c ∈ l,c.length<=8/\∀ x ∈ c,wrongCl x=0

def doM (m:Mc) (kind n:Int):Mc×Int :=
 if kind=1 then
  if n < 0∨(m.clients.length:Int)<=n then (m,6)
  else
   let c:=zcy (m.clients.getD n.toNat (zbO [])) n m.server.gen m.up
   if c.2.2≠0 then (m,c.2.2)
   else if c.2.1≠[] then
    let v:=zbY m.server c.2.1
    if v.2≠0 then (m,v.2) else ({ m with server:=v.1,clients:=m.clients.set n.toNat c.1 },0)
   else ({ m with clients:=m.clients.set n.toNat c.1 },0)
 else if kind=2 then
  if ¬ m.up then (m,10)
  else
   let x:=zaz m.store m.server
   if x.2.2.2≠0 then (m,x.2.2.2)
   else
    let m':Mc:={ m with store:=x.1,server:=x.2.1 }
    if x.2.2.1≠[] then
     let k:=(x.2.2.1.getD 1 0).toNat
     if k < m.clients.length then ({ m' with clients:=m.clients.set k (zcg (m.clients.getD k (zbO [])) x.2.2.1) },0) else (m',0)
    else (m',0)
 else if kind=3 then zd5 m
 else if kind=4 then (za6 m,0)
 else (m,1)

def zcu (m:Mc) (steps:List (Int×Int)):Mc:=steps.foldl (fun m s=>(doM m s.1 s.2).1) m

def roundM (m:Mc):Mc :=
 let m1:=za6 m
 let m2:=(List.range m1.clients.length).foldl (fun m (n:Nat)=>(doM m 1 (n:Int)).1) m1
 (doM m2 2 0).1

open Go Go.RowKit

def zdw:El Cl:=fun _ c x=>c=[I x.kind,I x.name,I x.other,I x.n]
def zhL:El An:=fun _ c x=>c=[I x.client,I x.token,I x.reply.err,I x.reply.n]
def zhn:El Rq:=fun _ c x=>c=[I x.client,I x.token,I x.call.kind,I x.call.name,I x.call.other,I x.call.n]
def zd6:El Rp:=fun _ c x=>c=[I x.err,I x.n]
def zcc:El (List UInt8):=fun w c x=>∃ v,c=[v]/\zbd w v x
def zdI:El (List Cl):=fun w c x=>∃ v,c=[v]/\zas 4 zdw w v x

theorem zdK:zgt zdw:=fun _ _ _ _ _ h=>h
theorem zgO:zgt zhL:=fun _ _ _ _ _ h=>h
theorem zjT:zgt zhn:=fun _ _ _ _ _ h=>h
theorem ze5:zgt zd6:=fun _ _ _ _ _ h=>h
theorem zdf:zgt zcc:=fun _ _ _ _ he ⟨v,e,h⟩=>⟨v,e,h.ext he⟩
theorem zbC {l:List Value} (h:l.all (fun u=>u.oneCell')=true):∀ u ∈ l,u.oneCell'=true:=fun u hu=>List.all_eq_true.1 h u hu
theorem zoQ {w:World} {size n:Nat} {v:Value} {cs:List Value} (h:Row w size v n cs):v.oneCell'=true:=by
 obtain ⟨_,ao,cap,rfl,_⟩:=h
 rfl
theorem ziC {X:Type} {R:El X} {w:World} {size:Nat} {v:Value} {xs:List X} (h:zas size R w v xs):v.oneCell'=true:=by
 obtain ⟨_,_,h⟩:=h
 exact zoQ h
theorem zse:zsJ zcc:=fun _ _ _ ⟨v,e,h⟩ u hu=>by
 rw [e] at hu
 simp at hu
 rw [hu]
 exact zoQ h
def zcC:El Cn:=fun w c x=>∃ calls box got,c=[calls,I x.at_,.bool x.sent,I x.gen,box,got]/\zas 4 zdw w calls x.calls/\zas 1 zcc w box x.box/\zas 2 zd6 w got x.got
theorem zkq:zgt zcC:=fun _ _ _ _ he ⟨a,b,d,e,h1,h2,h3⟩=>⟨a,b,d,e,h1.ext zdK he,h2.ext zdf he,h3.ext ze5 he⟩
theorem zsf:zsJ zcC:=fun _ _ _ ⟨a,b,d,e,h1,h2,h3⟩ u hu=>by
 rw [e] at hu
 simp at hu
 rcases hu with rfl | rfl | rfl | rfl | rfl | rfl
 ·exact ziC h1
 ·rfl
 ·rfl
 ·rfl
 ·exact ziC h2
 ·exact ziC h3

def zcn:El St:=fun w c x=>∃ a b d e,c=[a,b,d,e]/\zby w a x.cells/\zax w b x.undo/\zas 4 zhL w d x.answers/\zas 6 zhn w e x.past
theorem zf2:zgt zcn:=fun _ _ _ _ he ⟨a,b,d,e,h,h1,h2,h3,h4⟩=>⟨a,b,d,e,h,h1.ext he,h2.ext he,h3.ext zgO he,h4.ext zjT he⟩

def zhm:El Sv:=fun w c x=>∃ box plan,c=[I x.gen,box,.bool x.busy,I x.now.client,I x.now.token,I x.now.call.kind,I x.now.call.name,I x.now.call.other,I x.now.call.n,plan,I x.says.err,I x.says.n] /\
 zas 1 zcc w box x.box/\zax w plan x.plan
def zc1:El Mc:=fun w c x=>∃ s v cl,c=s++v++[.bool x.up,I x.pause,I x.falls,cl]/\zcn w s x.store/\zhm w v x.server/\zas 6 zcC w cl x.clients
theorem zdx {X:Type} {f:X->List Value} {size:Nat} {w:World} {v:Value} {xs:List X} (hf:∀ x,(f x).length=size):zas size (fun _ c x=>c=f x) w v xs↔Row w size v xs.length (xs.flatMap f):=by
 constructor
 ·rintro ⟨css,he,hr⟩
  rw [zlQ (f:=f) he.1 (fun i c x hc hx=>(he.2 i c x hc hx).2)] at hr
  exact hr
 ·intro h
  refine ⟨xs.map f,⟨by simp,fun i c x hc hx=>?_⟩,?_⟩
  ·rw [List.getElem?_map,hx] at hc
   simp at hc
   subst hc
   exact ⟨hf x,rfl⟩
  ·rw [<- List.flatMap_def]
   exact h
theorem zei {w:World} {v:Value} {l:List Rq}:zas 6 zhn w v l↔zrA w v l:=zdx (f:=fun (r:Rq)=>[I r.client,I r.token,I r.call.kind,I r.call.name,I r.call.other,I r.call.n]) (fun _=>rfl)

open Go Go.RowKit

def zqr (φ:World->Prop):Prop:=∀ w w',(∀ k,k < w.heap.size->w'.heap[k]?=w.heap[k]?)->φ w->φ w'
def zgV {X:Type} (R:El X):Prop:=∀ w w' c x,(∀ k,k < w.heap.size->w'.heap[k]?=w.heap[k]?)->R w c x->R w' c x

def Rd (A:Nat->Prop) (φ:World->Prop) (w:World):Prop:=∀ w':World,(∀ k,A k->k < w.heap.size->w'.heap[k]?=w.heap[k]?)->φ w'

theorem Rd.o {A:Nat->Prop} {φ:World->Prop} {w:World} (h:Rd A φ w):φ w:=h w (fun _ _ _=>rfl)
theorem Rd.ext {A:Nat->Prop} {φ:World->Prop} {w w':World} (h:Rd A φ w) (he:Ext w w'):Rd A φ w':=fun w2 h2=>h w2 (fun k ha hk=>by
 rw [h2 k ha (Nat.lt_of_lt_of_le hk he.size)]
 exact he.block k hk)
theorem Rd.mono (A:Nat->Prop) (φ:World->Prop):zcJ (Rd A φ):=fun _ _ he h=>h.ext he
theorem Rd.grown {A:Nat->Prop} {φ:World->Prop} {w w':World} {row:Option Nat} (h:Rd A φ w) (hg:w.grownBy w' row) (hr:∀ b,row=some b->¬ A b):Rd A φ w':=fun w2 h2=>h w2 (fun k ha hk=>by
 rw [h2 k ha (Nat.lt_of_lt_of_le hk hg.size)]
 exact hg.block k hk (fun e=>hr k e.symm ha))
theorem Rd.set {A:Nat->Prop} {φ:World->Prop} {w:World} (h:Rd A φ w) {b:Nat} (hb:¬ A b) (i:Nat) (x:Value):Rd A φ (w.setCell ⟨b,i,none⟩ x):=fun w2 h2=>h w2 (fun k ha hk=>by
 rw [h2 k ha (by simpa using hk)]
 exact Below.heap_setCell w _ x k (fun e=>hb (by have e:k=b:=e; rw [<- e]; exact ha)))
theorem Rd.imp {A:Nat->Prop} {φ ψ:World->Prop} {w:World} (h:Rd A φ w) (hi:∀ w',φ w'->ψ w'):Rd A ψ w:=fun w2 h2=>hi w2 (h w2 h2)
theorem Rd.and {A:Nat->Prop} {φ ψ:World->Prop} {w:World} (h:Rd A φ w) (k:Rd A ψ w):Rd A (fun w=>φ w/\ψ w) w:=fun w2 h2=>⟨h w2 h2,k w2 h2⟩
theorem Rd.left {A:Nat->Prop} {φ ψ:World->Prop} {w:World} (h:Rd A (fun w=>φ w/\ψ w) w):Rd A φ w:=h.imp fun _ h=>h.1
theorem Rd.right {A:Nat->Prop} {φ ψ:World->Prop} {w:World} (h:Rd A (fun w=>φ w/\ψ w) w):Rd A ψ w:=h.imp fun _ h=>h.2
theorem Rd.widen {A B:Nat->Prop} {φ:World->Prop} {w:World} (h:Rd A φ w) (hi:∀ k,k < w.heap.size->A k->B k):Rd B φ w:=fun w2 h2=>h w2 (fun k ha hk=>h2 k (hi k hk ha) hk)
theorem Rd.of {φ:World->Prop} (hp:zqr φ) {w:World} (h:φ w):Rd (fun k=>k < w.heap.size) φ w:=fun w2 h2=>hp w w2 (fun k hk=>h2 k hk hk) h
theorem Rd.all {A:Nat->Prop} {φ:World->Prop} {w:World} (h:∀ w,φ w):Rd A φ w:=fun w2 _=>h w2

theorem Row.heap {w w':World} {size:Nat} {v:Value} {n:Nat} {cs:List Value} (h:Row w size v n cs) (hk:∀ (j:Nat) (u:Value) (b off:Nat),cs[j]?=some u->(∃ m cap,v=.slice (some ⟨b,off,none⟩) m cap)->w'.heap[b]?=w.heap[b]?):Row w' size v n cs:=by
 obtain ⟨h1,ao,cap,h2,h3,h4,h0,h5⟩:=h
 refine ⟨h1,ao,cap,h2,h3,h4,h0,fun j u hj=>?_⟩
 obtain ⟨b,off,e,hc⟩:=h5 j u hj
 refine ⟨b,off,e,?_⟩
 have:=hk j u b off hj ⟨_,_,by rw [h2,e]⟩
 simp only [World.cell?,this] at hc ⊢
 exact hc
theorem zgF (size:Nat) (v:Value) (n:Nat) (cs:List Value):zqr (fun w=>Row w size v n cs):=fun w w' hk h=>by
 obtain ⟨h1,ao,cap,h2,h3,h4,h0,h5⟩:=h
 refine ⟨h1,ao,cap,h2,h3,h4,h0,fun j u hj=>?_⟩
 obtain ⟨b,off,e,hc⟩:=h5 j u hj
 refine ⟨b,off,e,?_⟩
 have hb:b < w.heap.size:=by
  by_cases hb:b < w.heap.size
  ·exact hb
  ·simp [World.cell?,Array.getElem?_eq_none (Nat.le_of_not_lt hb)] at hc
 simp only [World.cell?,hk b hb] at hc ⊢
 exact hc
theorem zb8 {X:Type} {size:Nat} {R:El X} (hR:zgV R) (v:Value) (xs:List X):zqr (fun w=>zas size R w v xs):=fun _ _ hk ⟨css,he,hr⟩ =>
 ⟨css,⟨he.1,fun i c x hc hx=>⟨(he.2 i c x hc hx).1,hR _ _ _ _ hk (he.2 i c x hc hx).2⟩⟩,zgF _ _ _ _ _ _ hk hr⟩

theorem zrg:zgV zdw:=fun _ _ _ _ _ h=>h
theorem zsO:zgV zhL:=fun _ _ _ _ _ h=>h
theorem zsP:zgV zhn:=fun _ _ _ _ _ h=>h
theorem zsU:zgV zd6:=fun _ _ _ _ _ h=>h
theorem zq7:zgV zcc:=fun _ _ _ _ hk ⟨v,e,h⟩=>⟨v,e,zgF _ _ _ _ _ _ hk h⟩
theorem zhb:zgV zdI:=fun _ _ _ _ hk ⟨v,e,h⟩=>⟨v,e,zb8 zrg _ _ _ _ hk h⟩
theorem zsr:zgV zcC:=fun _ _ _ _ hk ⟨a,b,d,e,h1,h2,h3⟩=>⟨a,b,d,e,zb8 zrg _ _ _ _ hk h1,zb8 zq7 _ _ _ _ hk h2,zb8 zsU _ _ _ _ hk h3⟩
theorem zsv:zgV zcn:=fun _ _ _ _ hk ⟨a,b,d,e,h,h1,h2,h3,h4⟩=>⟨a,b,d,e,h,zgF _ _ _ _ _ _ hk h1,zgF _ _ _ _ _ _ hk h2,zb8 zsO _ _ _ _ hk h3,zb8 zsP _ _ _ _ hk h4⟩
theorem zsR:zgV zhm:=fun _ _ _ _ hk ⟨a,b,h,h1,h2⟩=>⟨a,b,h,zb8 zq7 _ _ _ _ hk h1,zgF _ _ _ _ _ _ hk h2⟩
theorem zsF:zgV zc1:=fun _ _ _ _ hk ⟨s,v,cl,h,h1,h2,h3⟩=>⟨s,v,cl,h,zsv _ _ _ _ hk h1,zsR _ _ _ _ hk h2,zb8 zsr _ _ _ _ hk h3⟩

theorem zdV {base e size n:Nat} {v:Value} {cs:List Value} {w:World} (h:w.ownsRow base e size v n cs):Rd (fun k=>base<=k) (fun w=>Row w size v n cs) w:=fun w2 h2=>by
 refine Row.heap (Row.of_owns h) (fun j u b off hj ⟨m,cap,e⟩=>?_)
 rcases h.2 with ⟨rfl,_⟩ | ⟨g,cap',cur,rfl,hb,hg,_⟩
 ·cases e
 ·simp at e
  obtain ⟨⟨rfl,_⟩,_⟩:=e
  exact h2 g hb (Array.getElem?_eq_some_iff.1 hg).1
theorem zeb {base e n:Nat} {v:Value} {xs:List Int} {w:World} (h:w.ownsRow base e 1 v n (xs.map I)):Rd (fun k=>base<=k) (fun w=>zby w v xs) w:=by
 have hl:xs.length=n:=by simpa using h.1
 subst hl
 exact zdV h
theorem zek {base e n:Nat} {v:Value} {l:List (Int×Int)} {w:World} (h:w.ownsRow base e 2 v n (zaB l)):Rd (fun k=>base<=k) (fun w=>zax w v l) w:=by
 have hl:l.length=n:=by have:=h.1; rw [zcF] at this; omega
 subst hl
 exact zdV h

def zaK (P:Program) (f:FuncId) (args:Array Value) (w:World) (A:Nat->Prop) (T:Value->World->Prop):Prop :=
 Calls P f args w fun e w'=>∃ r,e=.returned r/\Ext w w'/\Rd (fun k=>A k∨w.heap.size<=k) (T r) w'

theorem zaK.to {P:Program} {f:FuncId} {args:Array Value} {w:World} {A:Nat->Prop} {T:Value->World->Prop} {Q:Ending->World->Prop} (h:zaK P f args w A T) (k:∀ r w',Ext w w'->Rd (fun k=>A k∨w.heap.size<=k) (T r) w'->Q (.returned r) w'):Calls P f args w Q :=
 Calls.mono h fun e w' ⟨r,he,hx,ht⟩=>by rw [he]; exact k r w' hx ht
theorem zaK.gives {P:Program} {f:FuncId} {args:Array Value} {w:World} {A:Nat->Prop} {T:Value->World->Prop} (h:zaK P f args w A T):zaT P f args w T :=
 Calls.mono h fun _ _ ⟨r,he,hx,ht⟩=>⟨r,he,hx,ht.o⟩

def Agg {X:Type} (R:El X) (x:X) (v:Value) (w:World):Prop:=∃ cs:List Value,v=.agg cs.toArray/\R w cs x
theorem zbS {X:Type} {R:El X} {x:X} {v:Value} {A:Nat->Prop} {w:World} (h:Rd A (Agg R x v) w):∃ cs:List Value,v=.agg cs.toArray/\Rd A (fun w=>R w cs x) w:=by
 obtain ⟨cs,e,_⟩:=h.o
 refine ⟨cs,e,fun w2 h2=>?_⟩
 obtain ⟨cs2,e2,h3⟩:=h w2 h2
 rw [e] at e2
 have:cs=cs2:=by simpa using e2
 rw [this]
 exact h3
theorem zca {X:Type} {R:El X} {x:X} {cs:List Value} {A:Nat->Prop} {w:World} (h:Rd A (fun w=>R w cs x) w):Rd A (Agg R x (.agg cs.toArray)) w:=h.imp fun _ h=>⟨cs,rfl,h⟩
theorem zcK {w:World} {a b d e:Value} {s:St}:zcn w [a,b,d,e] s↔zby w a s.cells/\zax w b s.undo/\zas 4 zhL w d s.answers/\zas 6 zhn w e s.past:=by
 constructor
 ·rintro ⟨a',b',d',e',h,h1,h2,h3,h4⟩
  simp at h
  obtain ⟨rfl,rfl,rfl,rfl⟩:=h
  exact ⟨h1,h2,h3,h4⟩
 ·rintro ⟨h1,h2,h3,h4⟩
  exact ⟨a,b,d,e,rfl,h1,h2,h3,h4⟩
theorem zez {A:Nat->Prop} {w:World} {cs:List Value} {s:St} (h:Rd A (fun w=>zcn w cs s) w):∃ a b d e,cs=[a,b,d,e]/\Rd A (fun w=>zby w a s.cells) w/\Rd A (fun w=>zax w b s.undo) w/\Rd A (fun w=>zas 4 zhL w d s.answers) w/\Rd A (fun w=>zas 6 zhn w e s.past) w:=by
 obtain ⟨a,b,d,e,rfl,_⟩:=h.o
 have h2:=h.imp fun _ h=>zcK.1 h
 exact ⟨a,b,d,e,rfl,h2.left,h2.right.left,h2.right.right.left,h2.right.right.right⟩
theorem zdJ {A:Nat->Prop} {w:World} {a b d e:Value} {s:St} (h1:Rd A (fun w=>zby w a s.cells) w) (h2:Rd A (fun w=>zax w b s.undo) w) (h3:Rd A (fun w=>zas 4 zhL w d s.answers) w) (h4:Rd A (fun w=>zas 6 zhn w e s.past) w):Rd A (fun w=>zcn w [a,b,d,e] s) w :=
 (h1.and (h2.and (h3.and h4))).imp fun _ h=>zcK.2 h

theorem zdF (A:Nat->Prop) (s n:Nat):∃ B:Nat->Prop,(∀ k,k < s->A k->B k)/\(∀ k,s+n<=k->B k)/\(∀ k,s<=k->k < s+n->¬ B k)/\∀ k,B k->A k∨s<=k :=
 ⟨fun k=>(A k/\k < s)∨s+n<=k,fun k h1 h2=>.inl ⟨h2,h1⟩,fun _ h=>.inr h,fun k h1 h2 h=>by rcases h with ⟨_,h⟩ | h <;> omega,fun k h=>by rcases h with ⟨h,_⟩ | h; exact .inl h; exact .inr (by omega)⟩
theorem zao {w:World} {size n:Nat} {v:Value} {cs:List Value} (h:Row w size v n cs):∃ ao cap,v=.slice ao n cap:=by
 obtain ⟨_,ao,cap,e,_⟩:=h
 exact ⟨ao,cap,e⟩
theorem zag {X:Type} {R:El X} {w:World} {size:Nat} {v:Value} {xs:List X} (h:zas size R w v xs):∃ ao cap,v=.slice ao xs.length cap:=by
 obtain ⟨_,_,h⟩:=h
 exact zao h

open Go Go.RowKit Go.ChangeShapes Go.WideShapes

section
variable {P:Program} {H:Type} {enc:TypeId×Value->H} {W:World} {X:Type}

theorem znp {t e:TypeId} {sz:Nat} (hsz:0 < sz) (R:El X) (ht:P.underlying t=some (.slice e)) (hc:P.cellsOf e=sz)
  (hR:∀ fuel cs z,DataW.trod enc P W 0 (fun _=>true) true fuel e cs=some z->cs.length=sz->∃ x,R W cs x) {fuel:Nat} {v:Value} {z:DataW H×List MemPlace} (hz:DataW.trod enc P W 0 (fun _=>true) true fuel t [v]=some z):∃ xs:List X,zas sz R W v xs:=by
 obtain ⟨d,p⟩:=z
 obtain ⟨xs,css,hr,hl,hq,-⟩:=zkm (X:=X) hsz (fun cs x=>R W cs x) ht hc hR rfl hz
 exact ⟨xs,css,⟨hl,hq⟩,hr⟩

end
open Go Go.RowKit Go.ChangeShapes Go.WideShapes

section
variable {P:Program} {H:Type} {enc:TypeId×Value->H} {W:World}

theorem zgD {t e e2:TypeId} {f0 f1 f2 f3:Field} {v:Value} {d:DataW H} {p:List MemPlace} (ht:P.underlying t=some (.slice e)) (hu:P.underlying e=some (.slice e2)) (h1:P.cellsOf e=1) (he:P.underlying e2=some (.struct #[f0,f1,f2,f3])) (hc:P.cellsOf e2=4)
  (t0:P.underlying f0.type=some (.int .i64)) (t1:P.underlying f1.type=some (.int .i64)) (t2:P.underlying f2.type=some (.int .i64)) (t3:P.underlying f3.type=some (.int .i64))
  (o0:f0.offset=0) (o1:f1.offset=1) (o2:f2.offset=2) (o3:f3.offset=3) (c0:P.cellsOf f0.type=1) (c1:P.cellsOf f1.type=1) (c2:P.cellsOf f2.type=1) (c3:P.cellsOf f3.type=1)
  {b0:Nat} (hv:Value.okWide P W .any b0 t v) (h:DataW.Trod enc P W 0 (fun _=>true) true t v d p):∃ l:List (List Cl),zas 1 zdI W v l:=by
 obtain ⟨a0,len,cap,rfl⟩:=okWide_slice ht hv
 obtain ⟨fuel,hf⟩:=h
 refine znp (X:=List Cl) (by decide) zdI ht h1 (fun fuel cs z hz hl=>?_) hf
 match cs,hl with
 | [u],_ =>
  obtain ⟨xs,hx⟩:=znp (X:=Cl) (by decide) zdw hu hc (fun fuel cs z hz _=>zpv he hc t0 t1 t2 t3 o0 o1 o2 o3 c0 c1 c2 c3 hz) hz
  exact ⟨xs,u,rfl,hx⟩

end
open Go Go.RowKit

def zdr (base e size n:Nat) (cs:List Value) (v:Value) (w:World):Prop:=∃ g,v=.slice (some ⟨g,0,none⟩) n n/\w.ownsRow base e size v n cs
theorem zgS (base e size n:Nat) (cs:List Value):∀ v,zcJ (zdr base e size n cs v):=fun _ _ _ he ⟨g,e,h⟩=>⟨g,e,zam h he⟩
theorem zfM {w:World} {base e size:Nat} (cs:Array Value) (n:Nat) (hb:base<=w.heap.size) (hm:n<=maxLen) (hc:cs.size=n * size):zdr base e size n cs.toList (.slice (some ⟨w.heap.size,0,none⟩) n n) (w.alloc (.cells cs e)) :=
 ⟨_,rfl,World.ownsRow_lit (base:=base) (e:=e) (size:=size) w cs n hb hm hc⟩

theorem zcf {P:Program} (w:World) (base:Nat) (t ty e:TypeId) (i:TypeInfo) (z:Value) (size bytes:Nat) (ht:P.underlying t=some (.slice e)) (hi:P.info? e=some i) (hz:i.zero=some z)
  (hsize:i.size=size) (hby:i.bytes=bytes) (hzs:z.cells.size=size) (hsz:0 < size)
  (v:Value) (n:Nat) (xs:List Value) (hown:zdr base e size n xs v w) (u:Value) (m:Nat) (news:List Value) (hu:Row w size u m news) (h1:∀ u ∈ news,u.oneCell'=true)
  (hbytes:(n+m) * bytes<=140737488355328) (hpos:0 < bytes) (hbase:base<=w.heap.size) :
  ∃ v' w',(Builtin.append_ #[t,t] ty #[v,u]).run P w=.ok v' w'/\w'.ownsRow base e size v' (n+m) (xs++news)/\Ext w w':=by
 obtain ⟨g,rfl,hown⟩:=hown
 have h63:n+m<=maxLen:=by
  have:n+m<=(n+m) * bytes:=Nat.le_mul_of_pos_right _ hpos
  unfold maxLen
  omega
 obtain ⟨hl,ao,cap,rfl,hc,hm,h0,hcell⟩:=hu
 by_cases hm0:m=0
 ·subst hm0
  have hn:news=[]:=List.eq_nil_of_length_eq_zero (by simpa using hl)
  subst hn
  cases ao with
  | none =>
   have hcap:=h0 rfl
   subst hcap
   exact ⟨_,w,run_append_owned_none w base t ty e i size ht hi _ n xs hown,by simpa using hown,Ext.refl _⟩
  | some ad =>
   rcases hown.2 with ⟨e',_⟩ | ⟨g',cap',cur,e',hbg,hg,hnc,hcm,hcs,htake⟩
   ·cases e'
   ·simp at e'
    obtain ⟨rfl,rfl⟩:=e'
    subst hsize
    have hr:=run_append_room (P:=P) w t ty e i ht hi g n n cur hg ad 0 cap [] (by simp) (fun j u hj=>by simp at hj) (by simp) (by omega) (by simp; rw [hcs]; exact Nat.le_refl _)
    refine ⟨_,_,hr,?_,?_⟩
    ·have hsame:(w.setRow g (cur.toList.take (n * i.size)++[]++cur.toList.drop (n * i.size+([]:List Value).length)).toArray).heap[g]?=some (.cells cur e):=by
      rw [setRow_heap w g cur _ e _ hg]
      simp
     refine ⟨by simp [hown.1],.inr ⟨g,n,cur,rfl,hbg,hsame,by omega,hcm,hcs,by simpa using htake⟩⟩
    ·refine ⟨rfl,rfl,rfl,by simp [World.setRow],fun k hk=>?_⟩
     by_cases hkg:k=g
     ·subst hkg
      rw [setRow_heap w k cur _ e _ hg,hg]
      simp
     ·exact setRow_other w g k _ hkg
 ·cases ao with
  | none=>have:=h0 rfl; omega
  | some ad =>
   obtain ⟨v',w',hrun,r1,r2⟩:=run_append_arg_grows (P:=P) w t ty e i z size bytes ht hi hz hsize hby hzs hsz ⟨g,0,none⟩ n n xs hown.1 (hown.cells (g:=g) rfl) ad m cap news hl (fun j u hj=>by
    obtain ⟨b,off,e',hc'⟩:=hcell j u hj
    simp only [Option.some.injEq] at e'
    subst e'
    rw [add_plain]; exact hc') (by omega) h63 hbytes
   refine ⟨v',w',hrun,?_,⟨r2.os,r2.tape,r2.output,r2.size,fun k hk=>r2.block k hk (by simp)⟩⟩
   obtain ⟨q1,q2⟩:=r1
   refine ⟨q1,?_⟩
   rcases q2 with h | ⟨g',cap',cur,rfl,hb,hr⟩
   ·exact .inl h
   ·exact .inr ⟨g',cap',cur,rfl,Nat.le_trans hbase hb,hr⟩

theorem zdc {P:Program} {o:Oper} {a:Act} {w w':World} {T:Value->World->Prop} {s x:Operand} {t:TypeId} {v u v':Value}
  (ho:o.op=.call { callee:=.builtin .append,args:=#[s,x],argTypes:=#[t,t] }) (hs:a.eval s=v) (hx:a.eval x=u) (hrun:(Builtin.append_ #[t,t] o.type #[v,u]).run P w=.ok v' w') (he:Ext w w') (hT:T v' w'):zaQ P o a w T:=by
 have:(execOp a.eval o).run P w=.ok (.value v') w':=by simp [execOp,ho,resolve,invoke,builtin,hs,hx,hrun,Result.andThen]
 unfold zaQ
 rw [this]
 exact ⟨he,hT⟩

theorem zdR {P:Program} {o:Oper} {a:Act} {w w':World} {s x:Operand} {t:TypeId} {v u v':Value}
  (ho:o.op=.call { callee:=.builtin .append,args:=#[s,x],argTypes:=#[t,t] }) (hs:a.eval s=v) (hx:a.eval x=u) (hrun:(Builtin.append_ #[t,t] o.type #[v,u]).run P w=.ok v' w'):(execOp a.eval o).run P w=.ok (.value v') w':=by
 simp [execOp,ho,resolve,invoke,builtin,hs,hx,hrun,Result.andThen]

end Go.Mk

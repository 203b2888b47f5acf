/- zbb of the proof, merged: Math1 Math2 Math3 MathZ Math4 Math6. -/
import Derived.Test.YtdmipnnfoolelagGreatDoorKTA
import Derived.Lib.AtoiAll
import Derived.Lib.ItoaNum
import Derived.Lib.Split
import Derived.Lib.Join

/- Chapter 1, plain mathematics: cells as lists of numbers. -/
namespace Go.Mk

def zbH (xs:List Int):Int:=if xs.length=0 then 0 else min (xs.getD 0 0) (((xs.length:Int) - 1) / 2)

def findIn (xs:List Int) (name:Int):Nat->Nat->Int
 | 0,_=>-1
 | n+1,i=>if xs.getD (1+2 * i) 0=name then (i:Int) else findIn xs name n (i+1)

theorem zow {xs:List Int} {name n:Int} {k:Nat} (hlt:(k:Int) < n) (h:(xs.getD (1+2 * k) 0 == name)=true):findIn xs name (n.toNat - k) k=(k:Int):=by
 obtain ⟨m,hm⟩:∃ m,n.toNat - k=m+1:=⟨n.toNat - k - 1,by omega⟩
 rw [hm,findIn,if_pos (by simpa using h)]
theorem znt {xs:List Int} {name n:Int} {k:Nat} (hlt:(k:Int) < n) (h:(xs.getD (1+2 * k) 0 == name)=false):findIn xs name (n.toNat - k) k=findIn xs name (n.toNat - (k+1)) (k+1):=by
 obtain ⟨m,hm⟩:∃ m,n.toNat - k=m+1:=⟨n.toNat - k - 1,by omega⟩
 rw [hm,findIn,if_neg (by simpa using h),show n.toNat - (k+1)=m by omega]
theorem zoC {xs:List Int} {name n:Int} {k:Nat} (hlt:¬ (k:Int) < n):findIn xs name (n.toNat - k) k=-1:=by
 rw [show n.toNat - k=0 by omega,findIn]
def zgl (xs:List Int) (i:Nat):Int :=
 if ¬ (1<=xs.getD (1+2 * i) 0/\xs.getD (1+2 * i) 0<=255)∨¬ (-1073741824<=xs.getD (2+2 * i) 0/\xs.getD (2+2 * i) 0<=1073741824) then 3
 else if 0<=findIn xs (xs.getD (1+2 * i) 0) i 0 then 7 else 0

def ziK (xs:List Int):Nat->Nat->Int
 | 0,_=>0
 | n+1,i=>if zgl xs i=0 then ziK xs n (i+1) else zgl xs i

def zd8 (xs:List Int):Int :=
 if xs.length≠11 then 5 else if ¬ (0<=xs.getD 0 0/\xs.getD 0 0<=5) then 3 else ziK xs (xs.getD 0 0).toNat 0

def zc1 (xs:List Int) (p:Int×Int):List Int:=if 0<=p.1/\p.1 < (xs.length:Int) then xs.set p.1.toNat p.2 else xs
def zav (xs:List Int) (l:List (Int×Int)):List Int:=l.foldl zc1 xs
def zbh (xs:List Int):List (Int×Int)->List (Int×Int)
 | []=>[]
 | p::l=>zbh (zc1 xs p) l++(if 0<=p.1/\p.1 < (xs.length:Int) then [(p.1,xs.getD p.1.toNat 0)] else [])

theorem zf3 (xs:List Int) (p:Int×Int):(zc1 xs p).length=xs.length:=by unfold zc1; split <;> simp
theorem zbS (xs:List Int) (l:List (Int×Int)):(zav xs l).length=xs.length:=by
 induction l generalizing xs with
 | nil=>rfl
 | cons p l ih=>show (zav (zc1 xs p) l).length=_; rw [ih,zf3]

theorem zh7 (xs:List Int) (l:List (Int×Int)) (p:Int×Int):zav xs (l++[p])=zc1 (zav xs l) p:=by simp [zav]

theorem zl6 (xs:List Int) (l:List (Int×Int)) (p:Int×Int) :
  zbh xs (l++[p])=(if 0<=p.1/\p.1 < (xs.length:Int) then [(p.1,(zav xs l).getD p.1.toNat 0)] else [])++zbh xs l:=by
 induction l generalizing xs with
 | nil=>simp [zbh,zav]
 | cons q l ih =>
  show zbh (zc1 xs q) (l++[p])++_=_++(zbh (zc1 xs q) l++_)
  rw [ih,zf3,<- List.append_assoc]
  rfl

theorem zfZ (xs:List Int) (l:List (Int×Int)):(zbh xs l).length<=l.length:=by
 induction l generalizing xs with
 | nil=>simp [zbh]
 | cons p l ih =>
  rw [zbh,List.length_append]
  have:=ih (zc1 xs p)
  simp only [List.length_cons]
  split <;> simp <;> omega

def rv (us:List (Int×Int)) (k:Nat):List (Int×Int):=(List.range us.length).map fun i=>if i < k∨us.length<=i+k then us.getD (us.length - 1 - i) (0,0) else us.getD i (0,0)
theorem zhM (us:List (Int×Int)) (k:Nat):(rv us k).length=us.length:=by simp [rv]
theorem getElem?_rv (us:List (Int×Int)) (k i:Nat):(rv us k)[i]?=if i < us.length then some (if i < k∨us.length<=i+k then us.getD (us.length - 1 - i) (0,0) else us.getD i (0,0)) else none:=by
 unfold rv
 rw [List.getElem?_map]
 by_cases h:i < us.length
 ·simp [h]
 ·simp [h]
theorem ztp (us:List (Int×Int)):rv us 0=us:=by
 apply List.ext_getElem?
 intro i
 rw [getElem?_rv]
 by_cases h:i < us.length
 ·rw [if_pos h,if_neg (by omega)]
  simp [h]
 ·rw [if_neg h]
  simp [h]
theorem zuG (us:List (Int×Int)) (k:Nat) (h:us.length<=2 * k+1):rv us k=us.reverse:=by
 apply List.ext_getElem?
 intro i
 rw [getElem?_rv]
 by_cases hi:i < us.length
 ·rw [if_pos hi,List.getElem?_reverse hi]
  have h1:us.length - 1 - i < us.length:=by omega
  by_cases hc:i < k∨us.length<=i+k
  ·rw [if_pos hc]
   simp [h1]
  ·rw [if_neg hc,show us.length - 1 - i=i by omega]
   simp [hi]
 ·rw [if_neg hi]
  rw [List.getElem?_eq_none (by simp; omega)]
theorem zs9 (us:List (Int×Int)) (k:Nat) (h:2 * k+1 < us.length):rv us (k+1)=((rv us k).set k (us.getD (us.length - 1 - k) (0,0))).set (us.length - 1 - k) (us.getD k (0,0)):=by
 apply List.ext_getElem?
 intro i
 rw [getElem?_rv,List.getElem?_set,List.length_set,zhM,List.getElem?_set,zhM,getElem?_rv]
 by_cases hi:i < us.length
 ·rw [if_pos hi]
  by_cases h1:us.length - 1 - k=i
  ·rw [if_pos h1,if_pos (by omega),if_pos (by omega),show us.length - 1 - i=k by omega]
  ·rw [if_neg h1]
   by_cases h2:k=i
   ·subst h2
    rw [if_pos rfl,if_pos hi,if_pos (by omega)]
   ·rw [if_neg h2,if_pos hi]
    by_cases h3:i < k∨us.length<=i+k
    ·rw [if_pos h3,if_pos (by omega)]
    ·rw [if_neg h3,if_neg (by omega)]
 ·rw [if_neg hi,if_neg (by omega),if_neg (by omega),if_neg hi]
theorem zu5 (us:List (Int×Int)) (k:Nat) (h:2 * k+1 < us.length):(rv us k).getD k (0,0)=us.getD k (0,0)/\(rv us k).getD (us.length - 1 - k) (0,0)=us.getD (us.length - 1 - k) (0,0):=by
 constructor
 ·rw [List.getD_eq_getElem?_getD,getElem?_rv,if_pos (by omega),if_neg (by omega)]; rfl
 ·rw [List.getD_eq_getElem?_getD,getElem?_rv,if_pos (by omega),if_neg (by omega)]; rfl

def zdh (l:List (Int×Int)) (i:Int) (n:Int):Int:=l.foldl (fun n p=>if p.1=i then p.2 else n) n
theorem zlr (xs:List Int) (p:Int×Int) (i:Nat) (hi:i < xs.length):(zc1 xs p).getD i 0=if p.1=(i:Int) then p.2 else xs.getD i 0:=by
 unfold zc1
 by_cases h:0<=p.1/\p.1 < (xs.length:Int)
 ·rw [if_pos h]
  by_cases he:p.1=(i:Int)
  ·rw [if_pos he,show p.1.toNat=i by omega]
   simp [hi]
  ·rw [if_neg he,List.getD_eq_getElem?_getD,List.getElem?_set_ne (by omega),List.getD_eq_getElem?_getD]
 ·rw [if_neg h,if_neg (by omega)]
theorem zpB (xs:List Int) (l:List (Int×Int)) (i:Nat) (hi:i < xs.length):(zav xs l).getD i 0=zdh l i (xs.getD i 0):=by
 induction l generalizing xs with
 | nil=>rfl
 | cons p l ih =>
  show (zav (zc1 xs p) l).getD i 0=zdh l i (if p.1=(i:Int) then p.2 else xs.getD i 0)
  rw [ih _ (by rw [zf3]; exact hi),zlr xs p i hi]
open Go Go.RowKit

structure Cl where
 kind:Int
 name:Int
 other:Int
 n:Int
structure Rp where
 err:Int
 n:Int
structure Rq where
 client:Int
 token:Int
 call:Cl
abbrev Cl.val (c:Cl):Value:=.agg #[I c.kind,I c.name,I c.other,I c.n]
abbrev Rp.val (r:Rp):Value:=.agg #[I r.err,I r.n]

def wrongCl (c:Cl):Int :=
 if ¬ (1<=c.kind/\c.kind<=6) then 1
 else if c.kind=5/\c.name≠0∨c.kind≠5/\¬ (1<=c.name/\c.name<=255) then 7
 else if c.kind=6/\¬ (1<=c.other/\c.other<=255)∨c.kind≠6/\c.other≠0 then 7
 else if (c.kind=1∨c.kind=4)/\¬ (-1073741824<=c.n/\c.n<=1073741824)∨¬ (c.kind=1∨c.kind=4)/\c.n≠0 then 3
 else 0

def at1 (l:List (Int×Int)) (name:Int):Nat:=l.findIdx (fun p=>p.1 == name)
def num (l:List (Int×Int)) (i:Nat):Int:=(l.getD i (0,0)).2
def put1 (l:List (Int×Int)) (i:Nat) (n:Int):List (Int×Int):=l.set i ((l.getD i (0,0)).1,n)

def zaO (l:List (Int×Int)) (c:Cl):List (Int×Int)×Rp :=
 if c.kind=5 then (l,⟨0,l.length⟩)
 else if c.kind=1 then
  if at1 l c.name < l.length then (put1 l (at1 l c.name) c.n,⟨0,num l (at1 l c.name)⟩)
  else if 5<=l.length then (l,⟨9,0⟩) else (l++[(c.name,c.n)],⟨0,0⟩)
 else if ¬ at1 l c.name < l.length then (l,⟨6,0⟩)
 else if c.kind=2 then (l,⟨0,num l (at1 l c.name)⟩)
 else if c.kind=3 then ((l.set (at1 l c.name) (l.getD (l.length - 1) (0,0))).take (l.length - 1),⟨0,num l (at1 l c.name)⟩)
 else if c.kind=4 then
  if ¬ (-1073741824<=num l (at1 l c.name)+c.n/\num l (at1 l c.name)+c.n<=1073741824) then (l,⟨3,0⟩)
  else (put1 l (at1 l c.name) (num l (at1 l c.name)+c.n),⟨0,num l (at1 l c.name)+c.n⟩)
 else if ¬ at1 l c.other < l.length then (l,⟨6,0⟩)
 else (put1 (put1 l (at1 l c.name) (num l (at1 l c.other))) (at1 l c.other) (num l (at1 l c.name)),⟨0,num l (at1 l c.other)⟩)

def Okn (l:List (Int×Int)):Prop:=l.length<=5/\(∀ p ∈ l,1<=p.1/\p.1<=255/\-1073741824<=p.2/\p.2<=1073741824)/\(l.map Prod.fst).Nodup

def Okw (l:List (Int×Int)):Prop:=l.length<=5/\∀ p ∈ l,0<=p.1/\p.1<=255/\-1073741824<=p.2/\p.2<=1073741824
theorem Okn.w {l:List (Int×Int)} (h:Okn l):Okw l:=⟨h.1,fun p hp=>by have:=h.2.1 p hp; omega⟩
theorem Okw.len {l:List (Int×Int)} (h:Okw l):l.length<=5:=h.1
theorem Okw.at {l:List (Int×Int)} (h:Okw l) {i:Nat} (hi:i < l.length):0<=(l.getD i (0,0)).1/\(l.getD i (0,0)).1<=255/\-1073741824<=(l.getD i (0,0)).2/\(l.getD i (0,0)).2<=1073741824:=by
 rw [List.getD_eq_getElem?_getD,List.getElem?_eq_getElem hi]
 exact h.2 _ (List.getElem_mem hi)

theorem zsQ (l:List (Int×Int)) (name:Int):at1 l name<=l.length:=List.findIdx_le_length
theorem zd7 {l:List (Int×Int)} {name:Int} (h:at1 l name < l.length):(l.getD (at1 l name) (0,0)).1=name:=by
 have:=List.findIdx_getElem (w:=h)
 rw [List.getD_eq_getElem?_getD,List.getElem?_eq_getElem h]
 exact eq_of_beq this
theorem zn5 {l:List (Int×Int)} {name:Int} {k:Nat} (hk:k < l.length) (h:(l.getD k (0,0)).1=name) (hb:∀ j,j < k->(l.getD j (0,0)).1≠name):at1 l name=k:=by
 unfold at1
 rw [List.findIdx_eq hk]
 refine ⟨by simpa [List.getD_eq_getElem?_getD,hk] using h,fun j hj=>?_⟩
 have:=hb j hj
 simpa [List.getD_eq_getElem?_getD,Nat.lt_trans hj hk] using this
theorem zjm {l:List (Int×Int)} {name:Int} (hb:∀ j,j < l.length->(l.getD j (0,0)).1≠name):at1 l name=l.length:=by
 unfold at1
 rw [List.findIdx_eq_length]
 intro p hp
 obtain ⟨j,hj,rfl⟩:=List.mem_iff_getElem.1 hp
 have:=hb j hj
 simpa [List.getD_eq_getElem?_getD,hj] using this
theorem zn9 {l:List (Int×Int)} {name:Int} {j:Nat} (h:j < at1 l name):(l.getD j (0,0)).1≠name:=by
 have hl:j < l.length:=Nat.lt_of_lt_of_le h (zsQ l name)
 have:=List.not_of_lt_findIdx h
 simpa [List.getD_eq_getElem?_getD,hl] using this

theorem Okn.len {l:List (Int×Int)} (h:Okn l):l.length<=5:=h.1
theorem Okn.at {l:List (Int×Int)} (h:Okn l) {i:Nat} (hi:i < l.length):1<=(l.getD i (0,0)).1/\(l.getD i (0,0)).1<=255/\-1073741824<=(l.getD i (0,0)).2/\(l.getD i (0,0)).2<=1073741824:=by
 rw [List.getD_eq_getElem?_getD,List.getElem?_eq_getElem hi]
 exact h.2.1 _ (List.getElem_mem hi)
theorem Okn.uni {l:List (Int×Int)} (h:Okn l) {i j:Nat} (hi:i < l.length) (hj:j < l.length) (e:(l.getD i (0,0)).1=(l.getD j (0,0)).1):i=j:=by
 have h2:=h.2.2
 rw [List.nodup_iff_pairwise_ne,List.pairwise_iff_getElem] at h2
 rw [List.getD_eq_getElem?_getD,List.getElem?_eq_getElem hi,List.getD_eq_getElem?_getD,List.getElem?_eq_getElem hj] at e
 rcases Nat.lt_trichotomy i j with hlt | heq | hgt
 ·exact absurd (by rw [List.getElem_map,List.getElem_map]; exact e) (h2 i j (by simpa using hi) (by simpa using hj) hlt)
 ·exact heq
 ·exact absurd (by rw [List.getElem_map,List.getElem_map]; exact e.symm) (h2 j i (by simpa using hj) (by simpa using hi) hgt)
theorem ziT {l:List (Int×Int)} (h1:l.length<=5) (h2:∀ i,i < l.length->1<=(l.getD i (0,0)).1/\(l.getD i (0,0)).1<=255/\-1073741824<=(l.getD i (0,0)).2/\(l.getD i (0,0)).2<=1073741824)
  (h3:∀ i j,i < j->j < l.length->(l.getD i (0,0)).1≠(l.getD j (0,0)).1):Okn l:=by
 refine ⟨h1,fun p hp=>?_,?_⟩
 ·obtain ⟨i,hi,rfl⟩:=List.mem_iff_getElem.1 hp
  have:=h2 i hi
  rwa [List.getD_eq_getElem?_getD,List.getElem?_eq_getElem hi] at this
 ·rw [List.nodup_iff_pairwise_ne,List.pairwise_iff_getElem]
  intro i j hi hj hij
  have:=h3 i j hij (by simpa using hj)
  rw [List.length_map] at hi hj
  rw [List.getD_eq_getElem?_getD,List.getElem?_eq_getElem hi,List.getD_eq_getElem?_getD,List.getElem?_eq_getElem hj] at this
  simpa using this

theorem zay (l:List (Int×Int)) (i:Nat) (n:Int):(put1 l i n).length=l.length:=by simp [put1]
theorem zcC (l:List (Int×Int)) (i j:Nat) (n:Int) (hi:i < l.length):(put1 l i n).getD j (0,0)=if i=j then ((l.getD j (0,0)).1,n) else l.getD j (0,0):=by
 unfold put1
 rw [List.getD_eq_getElem?_getD,List.getElem?_set]
 by_cases h:i=j
 ·subst h; rw [if_pos rfl,if_pos hi,if_pos rfl]; rfl
 ·rw [if_neg h,if_neg h,List.getD_eq_getElem?_getD]
theorem zdR (l:List (Int×Int)) (i j:Nat) (n:Int) (hi:i < l.length):((put1 l i n).getD j (0,0)).1=(l.getD j (0,0)).1:=by
 rw [zcC l i j n hi]; split <;> rfl
theorem zer (l:List (Int×Int)) (i j:Nat) (n:Int) (hi:i < l.length):((put1 l i n).getD j (0,0)).2=if i=j then n else (l.getD j (0,0)).2:=by
 rw [zcC l i j n hi]; split <;> rfl
theorem zna (l:List (Int×Int)) (i j:Nat) (n:Int) (hi:i < l.length):num (put1 l i n) j=if i=j then n else num l j:=zer l i j n hi
theorem zrW {l m:List (Int×Int)} (h:l.length=m.length) (hj:∀ j,j < l.length->l.getD j (0,0)=m.getD j (0,0)):l=m:=by
 refine List.ext_getElem h fun i h1 h2=>?_
 have:=hj i h1
 rwa [List.getD_eq_getElem?_getD,List.getElem?_eq_getElem h1,List.getD_eq_getElem?_getD,List.getElem?_eq_getElem h2] at this
theorem zfR {l:List (Int×Int)} (h:Okn l) {i:Nat} (hi:i < l.length) {n:Int} (h1:-1073741824<=n) (h2:n<=1073741824):Okn (put1 l i n):=by
 refine ziT (by rw [zay]; exact h.1) (fun j hj=>?_) (fun j k hjk hk=>?_)
 ·rw [zay] at hj
  rw [zdR l i j n hi,zer l i j n hi]
  have:=h.at hj
  split <;> omega
 ·rw [zay] at hk
  rw [zdR l i j n hi,zdR l i k n hi]
  intro e
  have:=h.uni (by omega) hk e
  omega
theorem zeb (l:List (Int×Int)) (i j:Nat) (hi:i < l.length) (hj:j < l.length - 1):((l.set i (l.getD (l.length - 1) (0,0))).take (l.length - 1)).getD j (0,0)=if i=j then l.getD (l.length - 1) (0,0) else l.getD j (0,0):=by
 rw [List.getD_eq_getElem?_getD,List.getElem?_take,if_pos hj,List.getElem?_set]
 by_cases h:i=j
 ·rw [if_pos h,if_pos hi,if_pos h]; rfl
 ·rw [if_neg h,if_neg h,<- List.getD_eq_getElem?_getD]
theorem zcN (l:List (Int×Int)) (i:Nat) (p:Int×Int):((l.set i p).take (l.length - 1)).length=l.length - 1:=by simp

theorem zrR {l:List (Int×Int)} {c:Cl} (h:l.length<=5):(zaO l c).1.length<=5:=by
 unfold zaO
 repeat' split
 all_goals first | exact h | (simp only [zay,zcN,List.length_append,List.length_cons,List.length_nil]; omega)

theorem zhX {l:List (Int×Int)} {c:Cl} (h:Okn l) (hc:wrongCl c=0):Okn (zaO l c).1/\((zaO l c).2.err=0∨(zaO l c).2.n=0/\(zaO l c).1=l)/\-1073741824<=(zaO l c).2.n/\(zaO l c).2.n<=1073741824:=by
 have hl:=h.len
 have hnum:∀ i,i < l.length->-1073741824<=num l i/\num l i<=1073741824:=fun i hi=>(h.at hi).2.2
 unfold wrongCl at hc
 by_cases k1:1<=c.kind/\c.kind<=6
 case neg=>rw [if_pos k1] at hc; cases hc
 rw [if_neg (by simpa using k1)] at hc
 split at hc
 ·cases hc
 rename_i hn
 split at hc
 ·cases hc
 rename_i ho
 split at hc
 ·cases hc
 rename_i hm
 unfold zaO
 by_cases h5:c.kind=5
 ·rw [if_pos h5]
  exact ⟨h,.inl rfl,by simp only; omega,by simp only; omega⟩
 rw [if_neg h5]
 by_cases h1:c.kind=1
 ·rw [if_pos h1]
  by_cases ha:at1 l c.name < l.length
  ·rw [if_pos ha]
   exact ⟨zfR h ha (by omega) (by omega),.inl rfl,(hnum _ ha).1,(hnum _ ha).2⟩
  ·rw [if_neg ha]
   by_cases hf:5<=l.length
   ·rw [if_pos hf]
    exact ⟨h,.inr ⟨rfl,rfl⟩,by simp only; omega,by simp only; omega⟩
   ·rw [if_neg hf]
    have e:at1 l c.name=l.length:=by have:=zsQ l c.name; omega
    refine ⟨ziT (by simp; omega) (fun j hj=>?_) (fun j k hjk hk=>?_),.inl rfl,by simp only; omega,by simp only; omega⟩
    ·simp only [List.length_append,List.length_cons,List.length_nil] at hj
     by_cases hj':j < l.length
     ·rw [List.getD_eq_getElem?_getD,List.getElem?_append_left hj',<- List.getD_eq_getElem?_getD]
      exact h.at hj'
     ·rw [List.getD_eq_getElem?_getD,List.getElem?_append_right (by omega),show j - l.length=0 by omega]
      show 1<=c.name/\c.name<=255/\-1073741824<=c.n/\c.n<=1073741824
      omega
    ·simp only [List.length_append,List.length_cons,List.length_nil] at hk
     rw [List.getD_eq_getElem?_getD,List.getElem?_append_left (by omega),<- List.getD_eq_getElem?_getD]
     by_cases hk':k < l.length
     ·rw [List.getD_eq_getElem?_getD (i:=k),List.getElem?_append_left hk',<- List.getD_eq_getElem?_getD]
      intro he
      have:=h.uni (by omega) hk' he
      omega
     ·rw [List.getD_eq_getElem?_getD (i:=k),List.getElem?_append_right (by omega),show k - l.length=0 by omega]
      exact zn9 (name:=c.name) (by omega)
 rw [if_neg h1]
 by_cases ha:at1 l c.name < l.length
 case neg=>rw [if_pos ha]; exact ⟨h,.inr ⟨rfl,rfl⟩,by simp only; omega,by simp only; omega⟩
 rw [if_neg (by simpa using ha)]
 by_cases h2:c.kind=2
 ·rw [if_pos h2]; exact ⟨h,.inl rfl,(hnum _ ha).1,(hnum _ ha).2⟩
 rw [if_neg h2]
 by_cases h3:c.kind=3
 ·rw [if_pos h3]
  refine ⟨ziT (by rw [zcN]; omega) (fun j hj=>?_) (fun j k hjk hk=>?_),.inl rfl,(hnum _ ha).1,(hnum _ ha).2⟩
  ·rw [zcN] at hj
   rw [zeb l _ j ha hj]
   split
   ·exact h.at (by omega)
   ·exact h.at (by omega)
  ·rw [zcN] at hk
   rw [zeb l _ j ha (by omega),zeb l _ k ha hk]
   intro he
   by_cases ej:at1 l c.name=j
   ·rw [if_pos ej,if_neg (by omega)] at he
    have:=h.uni (by omega) (by omega) he
    omega
   ·rw [if_neg ej] at he
    by_cases ek:at1 l c.name=k
    ·rw [if_pos ek] at he
     have:=h.uni (by omega) (by omega) he
     omega
    ·rw [if_neg ek] at he
     have:=h.uni (by omega) (by omega) he
     omega
 rw [if_neg h3]
 by_cases h4:c.kind=4
 ·rw [if_pos h4]
  by_cases hs:-1073741824<=num l (at1 l c.name)+c.n/\num l (at1 l c.name)+c.n<=1073741824
  ·rw [if_neg (by simpa using hs)]
   exact ⟨zfR h ha hs.1 hs.2,.inl rfl,hs.1,hs.2⟩
  ·rw [if_pos hs]; exact ⟨h,.inr ⟨rfl,rfl⟩,by simp only; omega,by simp only; omega⟩
 rw [if_neg h4]
 by_cases hb:at1 l c.other < l.length
 case neg=>rw [if_pos hb]; exact ⟨h,.inr ⟨rfl,rfl⟩,by simp only; omega,by simp only; omega⟩
 rw [if_neg (by simpa using hb)]
 exact ⟨zfR (zfR h ha (hnum _ hb).1 (hnum _ hb).2) (by rw [zay]; exact hb) (hnum _ ha).1 (hnum _ ha).2,.inl rfl,(hnum _ hb).1,(hnum _ hb).2⟩

open Go Go.RowKit

def zfQ (s:List (Int×Int)×List (Int×Int)) (c:Cl):List (Int×Int)×List (Int×Int):=((zaO s.1 c).1,s.2++[((zaO s.1 c).2.err,(zaO s.1 c).2.n)])

def zdv (cs:List Cl):List (Int×Int)×List (Int×Int):=cs.foldl zfQ ([],[])

theorem zfy (cs:List Cl) (c:Cl):zdv (cs++[c])=zfQ (zdv cs) c:=by simp [zdv]

theorem zoQ {cs:List Cl} {k:Nat} {c:Cl} (h:cs[k]?=some c):zdv (cs.take (k+1))=zfQ (zdv (cs.take k)) c:=by
 rw [List.take_add_one,h]
 exact zfy _ _

theorem okn_nil:Okn []:=ziT (by simp) (fun i hi=>by simp at hi) (fun i j _ hj=>by simp at hj)

theorem zuc {cs:List Cl} (h:∀ c ∈ cs,wrongCl c=0) (k:Nat):Okn (zdv (cs.take k)).1/\(zdv (cs.take k)).2.length=min k cs.length:=by
 induction k with
 | zero=>exact ⟨okn_nil,by simp [zdv]⟩
 | succ k ih =>
  by_cases hk:k < cs.length
  ·have hg:cs[k]?=some cs[k]:=List.getElem?_eq_getElem hk
   rw [zoQ hg]
   refine ⟨(zhX ih.1 (h _ (List.getElem_mem hk))).1,?_⟩
   simp only [zfQ,List.length_append,List.length_cons,List.length_nil,ih.2]
   omega
  ·rw [List.take_of_length_le (by omega)]
   rw [List.take_of_length_le (by omega)] at ih
   exact ⟨ih.1,by rw [ih.2]; omega⟩

def zaX (xs:List Int) (n:Nat):List (Int×Int):=(List.range n).map fun i=>(xs.getD (1+2 * i) 0,xs.getD (1+2 * i+1) 0)

theorem zl5 (xs:List Int) (n:Nat):zaX xs (n+1)=zaX xs n++[(xs.getD (1+2 * n) 0,xs.getD (1+2 * n+1) 0)]:=by simp [zaX,List.range_succ]

theorem zaU (xs:List Int) (n:Nat):(zaX xs n).length=n:=by simp [zaX]

def zbM (l:List Rq):List Value:=l.flatMap fun r=>[I r.client,I r.token,I r.call.kind,I r.call.name,I r.call.other,I r.call.n]

theorem zkp (l:List Rq):(zbM l).length=l.length * 6:=by
 unfold zbM
 induction l with
 | nil=>rfl
 | cons p l ih=>simp [List.flatMap_cons,ih]; omega

theorem zpE (l:List Rq) (k:Nat) (r:Rq) (h:l[k]?=some r):(zbM l)[k * 6]?=some (I r.client)/\(zbM l)[k * 6+1]?=some (I r.token)/\(zbM l)[k * 6+2]?=some (I r.call.kind) /\
  (zbM l)[k * 6+3]?=some (I r.call.name)/\(zbM l)[k * 6+4]?=some (I r.call.other)/\(zbM l)[k * 6+5]?=some (I r.call.n):=by
 induction l generalizing k with
 | nil=>simp at h
 | cons p l ih =>
  cases k with
  | zero =>
   simp at h
   subst h
   exact ⟨rfl,rfl,rfl,rfl,rfl,rfl⟩
  | succ k =>
   have:=ih k (by simpa using h)
   rw [show (k+1) * 6=k * 6+6 by omega,show k * 6+6+1=k * 6+1+6 by omega,show k * 6+6+2=k * 6+2+6 by omega,show k * 6+6+3=k * 6+3+6 by omega,show k * 6+6+4=k * 6+4+6 by omega,show k * 6+6+5=k * 6+5+6 by omega]
   exact this

def ztK (w:World) (v:Value) (l:List Rq):Prop:=Row w 6 v l.length (zbM l)

theorem ztK.ext {w w':World} {v:Value} {l:List Rq} (h:ztK w v l) (he:Ext w w'):ztK w' v l:=Row.ext h he

theorem ztK.form {w:World} {v:Value} {l:List Rq} (h:ztK w v l):∃ ao cap,v=.slice ao l.length cap/\l.length<=cap/\cap<=maxLen /\
  ∀ k r,l[k]?=some r->∃ b off,ao=some ⟨b,off,none⟩/\w.cell? ⟨b,off+k * 6,none⟩=some (I r.client)/\w.cell? ⟨b,off+k * 6+1,none⟩=some (I r.token)/\w.cell? ⟨b,off+k * 6+2,none⟩=some (I r.call.kind) /\
   w.cell? ⟨b,off+k * 6+3,none⟩=some (I r.call.name)/\w.cell? ⟨b,off+k * 6+4,none⟩=some (I r.call.other)/\w.cell? ⟨b,off+k * 6+5,none⟩=some (I r.call.n):=by
 obtain ⟨_,ao,cap,h2,h3,h4,_,h5⟩:=h
 refine ⟨ao,cap,h2,h3,h4,fun k r hk=>?_⟩
 obtain ⟨c0,c1,c2,c3,c4,c5⟩:=zpE l k r hk
 obtain ⟨b,off,e,q0⟩:=h5 _ _ c0
 have all:∀ j u,(zbM l)[j]?=some u->w.cell? ⟨b,off+j,none⟩=some u:=fun j u hj=>by
  obtain ⟨b',off',e',q⟩:=h5 j u hj
  rw [e] at e'
  simp only [Option.some.injEq,Addr.mk.injEq,and_true] at e'
  obtain ⟨rfl,rfl⟩:=e'
  exact q
 exact ⟨b,off,e,q0,all _ _ c1,all _ _ c2,all _ _ c3,all _ _ c4,all _ _ c5⟩

theorem zmg (l:List (Int×Int)) (a o n:Int):zaO l ⟨1,a,o,n⟩=if at1 l a < l.length then (put1 l (at1 l a) n,⟨0,num l (at1 l a)⟩) else if 5<=l.length then (l,⟨9,0⟩) else (l++[(a,n)],⟨0,0⟩):=rfl

theorem zmL (l:List (Int×Int)) (a o n:Int):zaO l ⟨2,a,o,n⟩=if ¬ at1 l a < l.length then (l,⟨6,0⟩) else (l,⟨0,num l (at1 l a)⟩):=rfl

theorem zhY (l:List (Int×Int)) (a o n:Int):zaO l ⟨3,a,o,n⟩=if ¬ at1 l a < l.length then (l,⟨6,0⟩) else ((l.set (at1 l a) (l.getD (l.length - 1) (0,0))).take (l.length - 1),⟨0,num l (at1 l a)⟩):=rfl

theorem ziL (l:List (Int×Int)) (a o n:Int):zaO l ⟨4,a,o,n⟩=if ¬ at1 l a < l.length then (l,⟨6,0⟩) else if ¬ (-1073741824<=num l (at1 l a)+n/\num l (at1 l a)+n<=1073741824) then (l,⟨3,0⟩) else (put1 l (at1 l a) (num l (at1 l a)+n),⟨0,num l (at1 l a)+n⟩):=rfl

theorem zgX (l:List (Int×Int)) (a b n:Int):zaO l ⟨6,a,b,n⟩=if ¬ at1 l a < l.length then (l,⟨6,0⟩) else if ¬ at1 l b < l.length then (l,⟨6,0⟩)
  else (put1 (put1 l (at1 l a) (num l (at1 l b))) (at1 l b) (num l (at1 l a)),⟨0,num l (at1 l b)⟩):=rfl

theorem zhh {k a o n:Int} (h:wrongCl ⟨k,a,o,n⟩=0):(k=1∨k=2∨k=3∨k=4∨k=5∨k=6)/\(k=1∨k=4->-1073741824<=n/\n<=1073741824):=by
 unfold wrongCl at h
 dsimp only at h
 repeat' split at h
 all_goals first | exact absurd h (by decide) | (constructor <;> omega)

open Go

def zeroCl:Cl:=⟨0,0,0,0⟩

open Go Go.RowKit Go.Lib

abbrev Bs:=List UInt8

def splitB (sep:UInt8):Bs->List Bs
 | []=>[[]]
 | b::r=>if b=sep then []::splitB sep r else ((b::(splitB sep r).headD [])::(splitB sep r).tail)
def zdk (sep:UInt8):List Bs->Bs
 | []=>[]
 | [w]=>w
 | w::v::ws=>w++sep::zdk sep (v::ws)

theorem zqm (sep:UInt8) (s:Bs):splitB sep s≠[]:=by
 cases s with
 | nil=>simp [splitB]
 | cons b r=>unfold splitB; split <;> simp
theorem zeK (sep:UInt8) (s:Bs):∃ w ws,splitB sep s=w::ws:=by
 cases h:splitB sep s with
 | nil=>exact absurd h (zqm sep s)
 | cons w ws=>exact ⟨w,ws,rfl⟩
theorem zfF (sep:UInt8) (w:Bs) (hw:sep ∉ w) (s:Bs):splitB sep (w++s)=(w++(splitB sep s).headD [])::(splitB sep s).tail:=by
 induction w with
 | nil =>
  obtain ⟨v,vs,h⟩:=zeK sep s
  rw [List.nil_append,h]; rfl
 | cons b w ih =>
  simp only [List.mem_cons,not_or] at hw
  have ih:=ih hw.2
  rw [List.cons_append,splitB,if_neg (fun e=>hw.1 e.symm),ih]
  rfl
theorem zeY (sep:UInt8) (w:Bs) (hw:sep ∉ w):splitB sep w=[w]:=by
 have:=zfF sep w hw []
 rw [List.append_nil] at this
 rw [this]
 simp [splitB]
theorem zji (sep:UInt8):∀ (ws:List Bs),ws≠[]->(∀ w ∈ ws,sep ∉ w)->splitB sep (zdk sep ws)=ws
 | [],h,_=>absurd rfl h
 | [w],_,hw=>zeY sep w (hw w (by simp))
 | w::v::ws,_,hw=>by
  show splitB sep (w++sep::zdk sep (v::ws))=_
  have ih:=zji sep (v::ws) (by simp) (fun x hx=>hw x (by simp at hx ⊢; exact .inr hx))
  rw [zfF sep w (hw w (by simp))]
  have e:splitB sep (sep::zdk sep (v::ws))=[]::splitB sep (zdk sep (v::ws)):=by
   rw [splitB,if_pos rfl]
  rw [e,ih]
  simp

/-! ### Numbers -/

theorem zeD {d:Nat} (h:d < 10):(UInt8.ofNat (48+d)).toNat=48+d:=by
 simp; omega
theorem zd0 (u:Nat):∀ b ∈ decDigits u,48<=b.toNat/\b.toNat<=57:=by
 induction u using Nat.strongRecOn with
 | _ u ih =>
  intro b hb
  by_cases h:u < 10
  ·rw [decDigits,dif_pos h,List.mem_singleton] at hb
   rw [hb,zeD h]; omega
  ·rw [decDigits,dif_neg h,List.mem_append,List.mem_singleton] at hb
   rcases hb with hb | hb
   ·exact ih (u / 10) (by omega) b hb
   ·rw [hb,zeD (by omega)]; omega
theorem zhv (u:Nat):decDigits u≠[]:=by
 intro h
 have:=decDigits_length u
 rw [h] at this
 have:=nDigits_pos u
 simp at *
 omega
theorem zjF:∀ (l:Bs) (acc v:Nat) (c:UInt8),parseUint10 acc l=.ok v->parseUint10 acc (l++[c])=parseUint10 v [c]
 | [],acc,v,c,h=>by
  simp only [parseUint10] at h
  injection h with h
  rw [h]; rfl
 | b::r,acc,v,c,h=>by
  rw [List.cons_append]
  rw [parseUint10] at h ⊢
  by_cases h1:48<=b.toNat/\b.toNat<=57
  ·rw [if_pos h1] at h ⊢
   by_cases h2:1844674407370955162<=acc
   ·rw [if_pos h2] at h; cases h
   ·rw [if_neg h2] at h ⊢
    by_cases h3:18446744073709551616<=acc * 10+(b.toNat - 48)
    ·rw [if_pos h3] at h; cases h
    ·rw [if_neg h3] at h ⊢
     exact zjF r _ v c h
  ·rw [if_neg h1] at h; cases h
theorem zqJ (u:Nat) (hu:u < 18446744073709551616):parseUint10 0 (decDigits u)=.ok u:=by
 induction u using Nat.strongRecOn with
 | _ u ih =>
  by_cases h:u < 10
  ·rw [decDigits,dif_pos h]
   simp only [parseUint10]
   rw [zeD h,if_pos (by omega),if_neg (by omega),if_neg (by omega)]
   congr 1
   omega
  ·rw [decDigits,dif_neg h,zjF _ _ _ _ (ih (u / 10) (by omega) (by omega))]
   simp only [parseUint10]
   rw [zeD (by omega),if_pos (by omega),if_neg (by omega),if_neg (by omega)]
   congr 1
   omega
theorem zo8 (u:Nat) (hu:u < 18446744073709551616):parseMag (decDigits u)=.ok u:=by
 unfold parseMag
 rw [if_neg (zhv u),zqJ u hu]
theorem zqx (n:Int) (h0:-9223372036854775808<=n) (h1:n<=9223372036854775807):atoiAll (itoa n)=.ok n:=by
 unfold itoa
 by_cases hn:n < 0
 ·rw [if_pos hn]
  simp only [atoiAll]
  have e:(45:UInt8).toNat=45:=rfl
  rw [if_pos (by simp),zo8 n.natAbs (by omega)]
  simp only [e]
  rw [if_neg (by simp),if_neg (by omega),if_pos trivial]
  congr 1
  omega
 ·rw [if_neg hn]
  cases hd:decDigits n.toNat with
  | nil=>exact absurd hd (zhv _)
  | cons c r =>
   have hc:=zd0 n.toNat c (by rw [hd]; simp)
   simp only [atoiAll]
   rw [if_neg (by omega),<- hd,zo8 n.toNat (by omega)]
   simp only []
   rw [if_neg (by omega),if_neg (by omega),if_neg (by omega)]
   congr 1
   omega
theorem zpF (n:Int):∀ b ∈ itoa n,b.toNat=45∨48<=b.toNat/\b.toNat<=57:=by
 intro b hb
 unfold itoa at hb
 split at hb
 ·rw [List.mem_cons] at hb
  rcases hb with rfl | hb
  ·exact .inl rfl
  ·exact .inr (zd0 _ b hb)
 ·exact .inr (zd0 _ b hb)

def zdx (w:Bs):Option Int:=match atoiAll w with
 | .ok n=>if itoa n=w then some n else none
 | _=>none
theorem zos {n:Int} (h0:-9223372036854775808<=n) (h1:n<=9223372036854775807):zdx (itoa n)=some n:=by
 unfold zdx
 rw [zqx n h0 h1]
 simp
theorem zoG {w:Bs} {n:Int} (h:zdx w=some n):itoa n=w:=by
 unfold zdx at h
 split at h
 ·split at h
  ·rename_i m _ e
   simp at h
   rw [<- h]; exact e
  ·cases h
 ·cases h
def numsOf:List Bs->Option (List Int)
 | []=>some []
 | w::ws=>match zdx w with
  | none=>none
  | some n=>match numsOf ws with
   | none=>none
   | some ns=>some (n::ns)
theorem zio:∀ {ws:List Bs} {ns:List Int},numsOf ws=some ns->ns.map itoa=ws
 | [],ns,h=>by simp [numsOf] at h; subst h; rfl
 | w::ws,ns,h=>by
  unfold numsOf at h
  cases h1:zdx w with
  | none=>rw [h1] at h; cases h
  | some n =>
   rw [h1] at h
   cases h2:numsOf ws with
   | none=>rw [h2] at h; cases h
   | some ms =>
    rw [h2] at h
    simp at h
    subst h
    rw [List.map_cons,zoG h1,zio h2]
theorem zic:∀ (ns:List Int),(∀ n ∈ ns,-9223372036854775808<=n/\n<=9223372036854775807)->numsOf (ns.map itoa)=some ns
 | [],_=>rfl
 | n::ns,h=>by
  rw [List.map_cons,numsOf,zos (h n (by simp)).1 (h n (by simp)).2,zic ns (fun m hm=>h m (by simp [hm]))]

/-! ### Calls -/

def zcF (k:Int):Bs :=
 if k=1 then [112,117,116] else if k=2 then [103,101,116] else if k=3 then [100,114,111,112] else if k=4 then [97,100,100] else if k=5 then [99,111,117,110,116] else if k=6 then [115,119,97,112] else []
def zbN (w:Bs):Int :=
 if w=[112,117,116] then 1 else if w=[103,101,116] then 2 else if w=[100,114,111,112] then 3 else if w=[97,100,100] then 4 else if w=[99,111,117,110,116] then 5 else if w=[115,119,97,112] then 6 else 0
def zgW (k:Int):Nat:=if k=1∨k=4∨k=6 then 2 else if k=2∨k=3 then 1 else 0
def argsOf (c:Cl):List Int:=if zgW c.kind=0 then [] else if zgW c.kind=1 then [c.name] else [c.name,if c.kind=6 then c.other else c.n]
def mkCl (k:Int) (ns:List Int):Cl:=⟨k,ns.getD 0 0,if k=6 then ns.getD 1 0 else 0,if k=6 then 0 else ns.getD 1 0⟩
def zgQ (c:Cl):List Bs:=zcF c.kind::(argsOf c).map itoa
def callText (c:Cl):Bs:=zdk 32 (zgQ c)
def zcL (w:Bs) (r:List Bs):Cl×Int :=
 if zbN w=0 then (zeroCl,1)
 else if r.length≠zgW (zbN w) then (zeroCl,2)
 else match numsOf r with
  | none=>(zeroCl,2)
  | some ns=>if wrongCl (mkCl (zbN w) ns)≠0 then (zeroCl,wrongCl (mkCl (zbN w) ns)) else (mkCl (zbN w) ns,0)
def zjS (ws:List Bs):Cl×Int:=zcL (ws.headD []) ws.tail
def readCl (s:Bs):Cl×Int:=zjS (splitB 32 s)

theorem zky {k:Int} (h:1<=k/\k<=6):zbN (zcF k)=k:=by
 have:k=1∨k=2∨k=3∨k=4∨k=5∨k=6:=by omega
 rcases this with rfl | rfl | rfl | rfl | rfl | rfl <;> rfl
theorem zkG {w:Bs} (h:zbN w≠0):zcF (zbN w)=w/\1<=zbN w/\zbN w<=6:=by
 unfold zbN at h ⊢
 repeat' split
 all_goals first | (rename_i e; subst e; exact ⟨rfl,by decide,by decide⟩) | simp_all
theorem zeS {c:Cl} (h:wrongCl c=0):(1<=c.kind/\c.kind<=6)/\(c.kind=5->c.name=0)/\(c.kind≠5->1<=c.name/\c.name<=255)/\(c.kind=6->1<=c.other/\c.other<=255)/\(c.kind≠6->c.other=0) /\
  (c.kind=1∨c.kind=4->-1073741824<=c.n/\c.n<=1073741824)/\(¬ (c.kind=1∨c.kind=4)->c.n=0):=by
 unfold wrongCl at h
 repeat' split at h
 all_goals first | exact absurd h (by decide) | skip
 refine ⟨by omega,?_,?_,?_,?_,?_,?_⟩ <;> omega
theorem ztE {c:Cl} (h:wrongCl c=0):mkCl c.kind (argsOf c)=c:=by
 obtain ⟨hk,h1,h2,h3,h4,h5,h6⟩:=zeS h
 obtain ⟨k,a,o,n⟩:=c
 simp only at *
 have:k=1∨k=2∨k=3∨k=4∨k=5∨k=6:=by omega
 rcases this with rfl | rfl | rfl | rfl | rfl | rfl <;> simp [mkCl,argsOf,zgW] at * <;> omega
theorem zfU (c:Cl):(argsOf c).length=zgW c.kind:=by
 unfold argsOf zgW
 repeat' split
 all_goals simp_all
theorem zjW {c:Cl} (h:wrongCl c=0):∀ n ∈ argsOf c,-9223372036854775808<=n/\n<=9223372036854775807:=by
 obtain ⟨hk,h1,h2,h3,h4,h5,h6⟩:=zeS h
 obtain ⟨k,a,o,n⟩:=c
 simp only at *
 have:k=1∨k=2∨k=3∨k=4∨k=5∨k=6:=by omega
 rcases this with rfl | rfl | rfl | rfl | rfl | rfl <;> simp [argsOf,zgW] at * <;> omega

theorem zm2 {c:Cl} (h:wrongCl c=0):zjS (zgQ c)=(c,0):=by
 obtain ⟨hk,_⟩:=zeS h
 show zcL (zcF c.kind) ((argsOf c).map itoa)=(c,0)
 unfold zcL
 rw [zky hk,if_neg (by omega),if_neg (by rw [List.length_map,zfU]; simp),zic _ (zjW h)]
 simp only []
 rw [ztE h,if_neg (by simp [h])]
theorem zoa (k:Int):∀ b ∈ zcF k,97<=b.toNat:=by
 unfold zcF
 repeat' split
 all_goals decide
theorem zhA (c:Cl):∀ w ∈ zgQ c,∀ b ∈ w,b.toNat=45∨48<=b.toNat:=by
 intro w hw b hb
 unfold zgQ at hw
 rw [List.mem_cons] at hw
 rcases hw with rfl | hw
 ·have:=zoa _ b hb; omega
 ·obtain ⟨n,_,rfl⟩:=List.mem_map.1 hw
  have:=zpF n b hb; omega
theorem zsR {w:Bs} {sep:UInt8} (h:∀ b ∈ w,b.toNat=45∨48<=b.toNat) (hs:sep.toNat<=32):sep ∉ w:=fun hm=>by
 have:=h sep hm; omega
theorem zm7 {c:Cl} (h:wrongCl c=0):readCl (callText c)=(c,0):=by
 unfold readCl callText
 rw [zji 32 _ (by simp [zgQ]) (fun w hw=>zsR (zhA c w hw) (by decide)),zm2 h]
/-! ### Rows of calls -/

def readLines:List Bs->List Cl×Int
 | []=>([],0)
 | s::r=>if (readCl s).2≠0 then ([],(readCl s).2) else if (readLines r).2≠0 then ([],(readLines r).2) else ((readCl s).1::(readLines r).1,0)
def zb2 (s:Bs):List Cl×Int :=
 if (readLines (splitB 10 s).dropLast).2≠0 then ([],(readLines (splitB 10 s).dropLast).2)
 else if (splitB 10 s).getLastD []≠[] then ([],8)
 else if 8 < (readLines (splitB 10 s).dropLast).1.length then ([],5)
 else ((readLines (splitB 10 s).dropLast).1,0)
def printCl (l:List Cl):Bs:=l.flatMap fun c=>callText c++[10]

theorem zvd (c:Cl):(10:UInt8) ∉ callText c:=by
 intro h
 have hj:∀ (ws:List Bs),(∀ w ∈ ws,∀ b ∈ w,b.toNat=45∨48<=b.toNat)->∀ b ∈ zdk 32 ws,b.toNat=45∨48<=b.toNat∨b.toNat=32:=by
  intro ws
  induction ws with
  | nil=>intro _ b hb; simp [zdk] at hb
  | cons w ws ih =>
   intro hw b hb
   cases ws with
   | nil =>
    have:=hw w (by simp) b hb
    omega
   | cons v vs =>
    rw [zdk,List.mem_append,List.mem_cons] at hb
    rcases hb with hb | rfl | hb
    ·have:=hw w (by simp) b hb; omega
    ·exact .inr (.inr rfl)
    ·exact ih (fun x hx=>hw x (by simp at hx ⊢; exact .inr hx)) b hb
 have:=hj (zgQ c) (zhA c) 10 h
 have e:(10:UInt8).toNat=10:=rfl
 omega
theorem zh9:∀ (l:List Cl),splitB 10 (printCl l)=l.map callText++[[]]
 | []=>rfl
 | c::l=>by
  have ih:=zh9 l
  show splitB 10 ((callText c++[10])++printCl l)=_
  rw [List.append_assoc,zfF 10 _ (zvd c)]
  have e:splitB 10 ([10]++printCl l)=[]::splitB 10 (printCl l):=by
   show splitB 10 (10::printCl l)=_
   rw [splitB,if_pos rfl]
  rw [e,ih]
  simp
theorem zf2:∀ (l:List Cl),(∀ c ∈ l,wrongCl c=0)->readLines (l.map callText)=(l,0)
 | [],_=>rfl
 | c::l,h=>by
  have ih:=zf2 l (fun d hd=>h d (by simp [hd]))
  rw [List.map_cons,readLines,zm7 (h c (by simp)),ih]
  simp
theorem zib {l:List Cl} (h:∀ c ∈ l,wrongCl c=0):zb2 (printCl l)=if 8 < l.length then ([],5) else (l,0):=by
 unfold zb2
 rw [zh9]
 have e1:(l.map callText++[[]]).dropLast=l.map callText:=by simp
 have e2:(l.map callText++[[]]).getLastD []=[]:=by simp
 rw [e1,e2,zf2 l h]
 simp
open Go Go.RowKit Go.Lib

theorem zf8 {c:UInt8}:∀ {s:Bs},c ∈ s->∃ w r,s=w++c::r/\c ∉ w
 | [],h=>by simp at h
 | b::s,h=>by
  by_cases hb:c=b
  ·exact ⟨[],s,by rw [hb]; rfl,by simp⟩
  ·have hm:c ∈ s:=by simpa [hb] using h
   obtain ⟨w,r,e,hw⟩:=zf8 hm
   exact ⟨b::w,r,by rw [e]; rfl,by simp [hb,hw]⟩
theorem indexOne:∀ (s:Bs) (c:UInt8),Lib.index s [c]=Lib.indexByte s c
 | [],c=>rfl
 | b::l,c=>by
  have e:([c].isPrefixOf (b::l))=(b == c):=by
   rw [List.isPrefixOf]
   simp [List.isPrefixOf]
   exact Bool.beq_comm
  unfold Lib.index Lib.indexByte
  rw [e,indexOne l c]
theorem zeh:∀ {s:Bs} {c:UInt8},c ∉ s->Lib.indexByte s c=-1
 | [],c,_=>rfl
 | b::l,c,h=>by
  simp only [List.mem_cons,not_or] at h
  unfold Lib.indexByte
  rw [if_neg (by simp; exact fun e=>h.1 e.symm),zeh h.2]
  rfl
theorem zdX:∀ {w r:Bs} {c:UInt8},c ∉ w->Lib.indexByte (w++c::r) c=w.length
 | [],r,c,_=>by simp [Lib.indexByte]
 | b::w,r,c,h=>by
  simp only [List.mem_cons,not_or] at h
  rw [List.cons_append]
  unfold Lib.indexByte
  rw [if_neg (by simp; exact fun e=>h.1 e.symm),zdX h.2]
  rw [if_neg (by simp)]
  simp
theorem zeA {c:UInt8} {w r:Bs} (h:c ∉ w):splitB c (w++c::r)=w::splitB c r:=by
 rw [zfF c w h,splitB,if_pos rfl]
 simp
theorem zis {c:UInt8} {s:Bs} (h:c ∉ s) (k:Nat):Lib.splitK [c] 0 k s=[s]:=by
 cases k with
 | zero=>rfl
 | succ k=>unfold Lib.splitK; rw [indexOne,zeh h]; rfl
theorem zhw {c:UInt8} {w r:Bs} (h:c ∉ w) (k:Nat):Lib.splitK [c] 0 (k+1) (w++c::r)=w::Lib.splitK [c] 0 k r:=by
 rw [Lib.splitK,indexOne,zdX h,if_neg (by simp)]
 have e:(w++c::r).drop (w.length+1)=r:=by
  rw [<- List.drop_drop]
  simp
 simp only [Int.toNat_natCast,List.length_singleton,Nat.add_zero]
 rw [e]
 simp
theorem zg8 (c:UInt8):∀ (s:Bs),(splitB c s).length<=s.length+1
 | []=>by simp [splitB]
 | b::s=>by
  have:=zg8 c s
  unfold splitB
  split
  ·simpa using this
  ·obtain ⟨w,ws,e⟩:=zeK c s
   rw [e] at this ⊢
   simp at this ⊢
   omega
theorem ziN (c:UInt8):∀ (k:Nat) (s:Bs),(splitB c s).length<=k+1->Lib.splitK [c] 0 k s=splitB c s
 | 0,s,h=>by
  by_cases hc:c ∈ s
  ·obtain ⟨w,r,rfl,hw⟩:=zf8 hc
   rw [zeA hw] at h
   obtain ⟨v,vs,e⟩:=zeK c r
   rw [e] at h
   simp at h
  ·rw [zis hc,zeY c s hc]
 | k+1,s,h=>by
  by_cases hc:c ∈ s
  ·obtain ⟨w,r,rfl,hw⟩:=zf8 hc
   rw [zeA hw] at h ⊢
   rw [zhw hw,ziN c k r (by simpa using h)]
  ·rw [zis hc,zeY c s hc]
theorem zid (c:UInt8):∀ (k:Nat) (s:Bs),k+1 < (splitB c s).length->(Lib.splitK [c] 0 k s).length=k+1/\(1<=k->(Lib.splitK [c] 0 k s).headD []=(splitB c s).headD [])
 | 0,s,_=>⟨rfl,fun h=>absurd h (by decide)⟩
 | k+1,s,h=>by
  by_cases hc:c ∈ s
  ·obtain ⟨w,r,rfl,hw⟩:=zf8 hc
   rw [zeA hw] at h ⊢
   rw [zhw hw]
   refine ⟨?_,fun _=>rfl⟩
   rw [List.length_cons,(zid c k r (by simpa using h)).1]
  ·rw [zeY c s hc] at h
   simp at h
theorem zl7 (k:Int):zgW k<=2:=by
 unfold zgW
 repeat' split
 all_goals decide
theorem znd {w:Bs} {r r':List Bs} (h:2 < r.length) (h':2 < r'.length):zcL w r=zcL w r':=by
 have:=zl7 (zbN w)
 unfold zcL
 rw [if_pos (c:=r.length≠_) (by omega),if_pos (c:=r'.length≠_) (by omega)]
theorem zmj (s:Bs):zjS (Lib.splitK [32] 0 (min 4 (s.length+1) - 1) s)=readCl s:=by
 unfold readCl
 by_cases h:(splitB 32 s).length<=min 4 (s.length+1) - 1+1
 ·rw [ziN 32 _ s h]
 ·have h1:=zg8 32 s
  have h3:min 4 (s.length+1) - 1=3:=by omega
  rw [h3] at h ⊢
  obtain ⟨a1,a2⟩:=zid 32 3 s (by omega)
  unfold zjS
  rw [a2 (by decide)]
  refine znd ?_ ?_
  ·rw [List.length_tail]; omega
  ·rw [List.length_tail]; omega

/-! ### Line by line -/

def zb5 (acc:List Cl) (s:Bs):List Cl×Int :=
 if (readLines (splitB 10 s).dropLast).2≠0 then ([],(readLines (splitB 10 s).dropLast).2)
 else if (splitB 10 s).getLastD []≠[] then ([],8)
 else if 8 < acc.length+(readLines (splitB 10 s).dropLast).1.length then ([],5)
 else (acc++(readLines (splitB 10 s).dropLast).1,0)
theorem zoE (s:Bs):zb2 s=zb5 [] s:=by
 unfold zb2 zb5
 simp
theorem zsg (acc:List Cl):zb5 acc []=if 8 < acc.length then ([],5) else (acc,0):=by
 simp [zb5,splitB,readLines]
theorem zrb (acc:List Cl) {s:Bs} (h0:s≠[]) (h:(10:UInt8) ∉ s):zb5 acc s=([],8):=by
 unfold zb5
 rw [zeY 10 s h]
 simp [readLines,h0]
theorem zsh (acc:List Cl) {w r:Bs} (h:(10:UInt8) ∉ w):zb5 acc (w++10::r)=if (readCl w).2≠0 then ([],(readCl w).2) else zb5 (acc++[(readCl w).1]) r:=by
 unfold zb5
 rw [zeA h]
 obtain ⟨v,vs,e⟩:=zeK 10 r
 have e1:(w::splitB 10 r).dropLast=w::(splitB 10 r).dropLast:=by rw [e]; rfl
 have e2:(w::splitB 10 r).getLastD []=(splitB 10 r).getLastD []:=by rw [e]; simp [List.getLastD_eq_getLast?]
 rw [e1,e2,readLines]
 by_cases h1:(readCl w).2≠0
 ·rw [if_pos h1,if_pos h1,if_pos h1]
 ·rw [if_neg h1,if_neg h1]
  by_cases h2:(readLines (splitB 10 r).dropLast).2≠0
  ·rw [if_pos h2,if_pos h2,if_pos h2]
  ·rw [if_neg h2,if_neg h2]
   simp only [ne_eq,not_true_eq_false,if_false,List.length_cons,List.length_append,List.length_nil,List.append_assoc,List.singleton_append]
   rw [show acc.length+((readLines (splitB 10 r).dropLast).1.length+1)=acc.length+(0+1)+(readLines (splitB 10 r).dropLast).1.length by omega]

/-! ### Words as they come -/

/-! ### Joined -/

theorem znq:∀ (ws:List Bs),Lib.join ws [32]=zdk 32 ws
 | []=>rfl
 | [w]=>by simp [Lib.join,zdk]
 | w::v::ws=>by
  have:=znq (v::ws)
  simp [Lib.join,zdk] at this ⊢
  exact this
end Go.Mk

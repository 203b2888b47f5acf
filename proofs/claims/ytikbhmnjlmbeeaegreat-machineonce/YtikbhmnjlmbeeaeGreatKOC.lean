/- Texts of the proof, merged: Math2 Math3 Read2 Mem2 Math7 Read3. -/
import Derived.Test.YtikbhmnjlmbeeaeGreatKOB
import Derived.Deep.Strs
import Derived.Test.YtikbhmnjlmbeeaeGreatKOA
import Derived.Laws.IdiomStrings

namespace Go.Mk
open Go Go.RowKit

structure Cl where
 kind : Int
 name : Int
 other : Int
 n : Int
structure Rp where
 err : Int
 n : Int
structure Rq where
 client : Int
 token : Int
 call : Cl
abbrev Cl.val (c : Cl) : Value:=.agg #[I c.kind,I c.name,I c.other,I c.n]
abbrev Rp.val (r : Rp) : Value:=.agg #[I r.err,I r.n]

def wrongCl (c : Cl) : Int :=
 if ¬ (1 <= c.kind /\ c.kind <= 6) then 1
 else if c.kind = 5 /\ c.name ≠ 0 ∨ c.kind ≠ 5 /\ ¬ (1 <= c.name /\ c.name <= 255) then 7
 else if c.kind = 6 /\ ¬ (1 <= c.other /\ c.other <= 255) ∨ c.kind ≠ 6 /\ c.other ≠ 0 then 7
 else if (c.kind = 1 ∨ c.kind = 4) /\ ¬ (-1073741824 <= c.n /\ c.n <= 1073741824) ∨ ¬ (c.kind = 1 ∨ c.kind = 4) /\ c.n ≠ 0 then 3
 else 0

def at1 (l : List (Int × Int)) (name : Int) : Nat:=l.findIdx (fun p=>p.1 == name)
def num (l : List (Int × Int)) (i : Nat) : Int:=(l.getD i (0,0)).2
def zcI (l : List (Int × Int)) (i : Nat) (n : Int) : List (Int × Int):=l.set i ((l.getD i (0,0)).1,n)

def zbr (l : List (Int × Int)) (c : Cl) : List (Int × Int) × Rp :=
 if c.kind = 5 then (l,⟨0,l.length⟩)
 else if c.kind = 1 then
  if at1 l c.name < l.length then (zcI l (at1 l c.name) c.n,⟨0,num l (at1 l c.name)⟩)
  else if 5 <= l.length then (l,⟨9,0⟩) else (l ++ [(c.name,c.n)],⟨0,0⟩)
 else if ¬ at1 l c.name < l.length then (l,⟨6,0⟩)
 else if c.kind = 2 then (l,⟨0,num l (at1 l c.name)⟩)
 else if c.kind = 3 then ((l.set (at1 l c.name) (l.getD (l.length - 1) (0,0))).take (l.length - 1),⟨0,num l (at1 l c.name)⟩)
 else if c.kind = 4 then
  if ¬ (-1073741824 <= num l (at1 l c.name) + c.n /\ num l (at1 l c.name) + c.n <= 1073741824) then (l,⟨3,0⟩)
  else (zcI l (at1 l c.name) (num l (at1 l c.name) + c.n),⟨0,num l (at1 l c.name) + c.n⟩)
 else if ¬ at1 l c.other < l.length then (l,⟨6,0⟩)
 else (zcI (zcI l (at1 l c.name) (num l (at1 l c.other))) (at1 l c.other) (num l (at1 l c.name)),⟨0,num l (at1 l c.other)⟩)

def Okn (l : List (Int × Int)) : Prop:=l.length <= 5 /\ (∀ p ∈ l,1 <= p.1 /\ p.1 <= 255 /\ -1073741824 <= p.2 /\ p.2 <= 1073741824) /\ (l.map Prod.fst).Nodup

def Okw (l : List (Int × Int)) : Prop:=l.length <= 5 /\ ∀ p ∈ l,0 <= p.1 /\ p.1 <= 255 /\ -1073741824 <= p.2 /\ p.2 <= 1073741824
theorem Okn.w {l : List (Int × Int)} (h : Okn l) : Okw l:=⟨h.1,fun p hp=>by have:=h.2.1 p hp; omega⟩
theorem Okw.len {l : List (Int × Int)} (h : Okw l) : l.length <= 5:=h.1
theorem Okw.at {l : List (Int × Int)} (h : Okw l) {i : Nat} (hi : i < l.length) : 0 <= (l.getD i (0,0)).1 /\ (l.getD i (0,0)).1 <= 255 /\ -1073741824 <= (l.getD i (0,0)).2 /\ (l.getD i (0,0)).2 <= 1073741824:=by
 rw [List.getD_eq_getElem?_getD,List.getElem?_eq_getElem hi]
 exact h.2 _ (List.getElem_mem hi)

theorem zks (l : List (Int × Int)) (name : Int) : at1 l name <= l.length:=List.findIdx_le_length
theorem zeh {l : List (Int × Int)} {name : Int} (h : at1 l name < l.length) : (l.getD (at1 l name) (0,0)).1 = name:=by
 have:=List.findIdx_getElem (w:=h)
 rw [List.getD_eq_getElem?_getD,List.getElem?_eq_getElem h]
 exact eq_of_beq this
theorem zke {l : List (Int × Int)} {name : Int} {k : Nat} (hk : k < l.length) (h : (l.getD k (0,0)).1 = name) (hb : ∀ j,j < k -> (l.getD j (0,0)).1 ≠ name) : at1 l name = k:=by
 unfold at1
 rw [List.findIdx_eq hk]
 refine ⟨by simpa [List.getD_eq_getElem?_getD,hk] using h,fun j hj=>?_⟩
 have:=hb j hj
 simpa [List.getD_eq_getElem?_getD,Nat.lt_trans hj hk] using this
theorem zg2 {l : List (Int × Int)} {name : Int} (hb : ∀ j,j < l.length -> (l.getD j (0,0)).1 ≠ name) : at1 l name = l.length:=by
 unfold at1
 rw [List.findIdx_eq_length]
 intro p hp
 obtain ⟨j,hj,rfl⟩:=List.mem_iff_getElem.1 hp
 have:=hb j hj
 simpa [List.getD_eq_getElem?_getD,hj] using this
theorem zeA {l : List (Int × Int)} {name : Int} {j : Nat} (h : j < at1 l name) : (l.getD j (0,0)).1 ≠ name:=by
 have hl : j < l.length:=Nat.lt_of_lt_of_le h (zks l name)
 have:=List.not_of_lt_findIdx h
 simpa [List.getD_eq_getElem?_getD,hl] using this

theorem Okn.len {l : List (Int × Int)} (h : Okn l) : l.length <= 5:=h.1
theorem Okn.at {l : List (Int × Int)} (h : Okn l) {i : Nat} (hi : i < l.length) : 1 <= (l.getD i (0,0)).1 /\ (l.getD i (0,0)).1 <= 255 /\ -1073741824 <= (l.getD i (0,0)).2 /\ (l.getD i (0,0)).2 <= 1073741824:=by
 rw [List.getD_eq_getElem?_getD,List.getElem?_eq_getElem hi]
 exact h.2.1 _ (List.getElem_mem hi)
theorem Okn.uni {l : List (Int × Int)} (h : Okn l) {i j : Nat} (hi : i < l.length) (hj : j < l.length) (e : (l.getD i (0,0)).1 = (l.getD j (0,0)).1) : i = j:=by
 have h2:=h.2.2
 rw [List.nodup_iff_pairwise_ne,List.pairwise_iff_getElem] at h2
 rw [List.getD_eq_getElem?_getD,List.getElem?_eq_getElem hi,List.getD_eq_getElem?_getD,List.getElem?_eq_getElem hj] at e
 rcases Nat.lt_trichotomy i j with hlt | heq | hgt
 ·exact absurd (by rw [List.getElem_map,List.getElem_map]; exact e) (h2 i j (by simpa using hi) (by simpa using hj) hlt)
 ·exact heq
 ·exact absurd (by rw [List.getElem_map,List.getElem_map]; exact e.symm) (h2 j i (by simpa using hj) (by simpa using hi) hgt)
theorem zi7 {l : List (Int × Int)} (h1 : l.length <= 5) (h2 : ∀ i,i < l.length -> 1 <= (l.getD i (0,0)).1 /\ (l.getD i (0,0)).1 <= 255 /\ -1073741824 <= (l.getD i (0,0)).2 /\ (l.getD i (0,0)).2 <= 1073741824)
  (h3 : ∀ i j,i < j -> j < l.length -> (l.getD i (0,0)).1 ≠ (l.getD j (0,0)).1) : Okn l:=by
 refine ⟨h1,fun p hp=>?_,?_⟩
 ·obtain ⟨i,hi,rfl⟩:=List.mem_iff_getElem.1 hp
  have:=h2 i hi
  rwa [List.getD_eq_getElem?_getD,List.getElem?_eq_getElem hi] at this
 ·rw [List.nodup_iff_pairwise_ne,List.pairwise_iff_getElem]
  intro i j hi hj hij
  have:=h3 i j hij (by simpa using hj)
  rw [List.length_map] at hi hj
  rw [List.getD_eq_getElem?_getD,List.getElem?_eq_getElem hi,List.getD_eq_getElem?_getD,List.getElem?_eq_getElem hj] at this
  simpa using this

theorem za7 (l : List (Int × Int)) (i : Nat) (n : Int) : (zcI l i n).length = l.length:=by simp [zcI]
theorem zdO (l : List (Int × Int)) (i j : Nat) (n : Int) (hi : i < l.length) : (zcI l i n).getD j (0,0) = if i = j then ((l.getD j (0,0)).1,n) else l.getD j (0,0):=by
 unfold zcI
 rw [List.getD_eq_getElem?_getD,List.getElem?_set]
 by_cases h : i = j
 ·subst h; rw [if_pos rfl,if_pos hi,if_pos rfl]; rfl
 ·rw [if_neg h,if_neg h,List.getD_eq_getElem?_getD]
theorem zew (l : List (Int × Int)) (i j : Nat) (n : Int) (hi : i < l.length) : ((zcI l i n).getD j (0,0)).1 = (l.getD j (0,0)).1:=by
 rw [zdO l i j n hi]; split <;> rfl
theorem ze5 (l : List (Int × Int)) (i j : Nat) (n : Int) (hi : i < l.length) : ((zcI l i n).getD j (0,0)).2 = if i = j then n else (l.getD j (0,0)).2:=by
 rw [zdO l i j n hi]; split <;> rfl
theorem zlp (l : List (Int × Int)) (i j : Nat) (n : Int) (hi : i < l.length) : num (zcI l i n) j = if i = j then n else num l j:=ze5 l i j n hi
theorem zlm {l m : List (Int × Int)} (h : l.length = m.length) (hj : ∀ j,j < l.length -> l.getD j (0,0) = m.getD j (0,0)) : l = m:=by
 refine List.ext_getElem h fun i h1 h2=>?_
 have:=hj i h1
 rwa [List.getD_eq_getElem?_getD,List.getElem?_eq_getElem h1,List.getD_eq_getElem?_getD,List.getElem?_eq_getElem h2] at this
theorem zhe {l : List (Int × Int)} (h : Okn l) {i : Nat} (hi : i < l.length) {n : Int} (h1 : -1073741824 <= n) (h2 : n <= 1073741824) : Okn (zcI l i n):=by
 refine zi7 (by rw [za7]; exact h.1) (fun j hj=>?_) (fun j k hjk hk=>?_)
 ·rw [za7] at hj
  rw [zew l i j n hi,ze5 l i j n hi]
  have:=h.at hj
  split <;> omega
 ·rw [za7] at hk
  rw [zew l i j n hi,zew l i k n hi]
  intro e
  have:=h.uni (by omega) hk e
  omega
theorem zen (l : List (Int × Int)) (i j : Nat) (hi : i < l.length) (hj : j < l.length - 1) : ((l.set i (l.getD (l.length - 1) (0,0))).take (l.length - 1)).getD j (0,0) = if i = j then l.getD (l.length - 1) (0,0) else l.getD j (0,0):=by
 rw [List.getD_eq_getElem?_getD,List.getElem?_take,if_pos hj,List.getElem?_set]
 by_cases h : i = j
 ·rw [if_pos h,if_pos hi,if_pos h]; rfl
 ·rw [if_neg h,if_neg h,<- List.getD_eq_getElem?_getD]
theorem zc5 (l : List (Int × Int)) (i : Nat) (p : Int × Int) : ((l.set i p).take (l.length - 1)).length = l.length - 1:=by simp

theorem zoW {l : List (Int × Int)} {c : Cl} (h : l.length <= 5) : (zbr l c).1.length <= 5:=by
 unfold zbr
 repeat' split
 all_goals first | exact h | (simp only [za7,zc5,List.length_append,List.length_cons,List.length_nil]; omega)

theorem zkb {l : List (Int × Int)} {c : Cl} (h : Okn l) (hc : wrongCl c = 0) : Okn (zbr l c).1 /\ ((zbr l c).2.err = 0 ∨ (zbr l c).2.n = 0 /\ (zbr l c).1 = l) /\ -1073741824 <= (zbr l c).2.n /\ (zbr l c).2.n <= 1073741824:=by
 have hl:=h.len
 have hnum : ∀ i,i < l.length -> -1073741824 <= num l i /\ num l i <= 1073741824:=fun i hi=>(h.at hi).2.2
 unfold wrongCl at hc
 by_cases k1 : 1 <= c.kind /\ c.kind <= 6
 case neg=>rw [if_pos k1] at hc; cases hc
 rw [if_neg (by simpa using k1)] at hc
 split at hc
 ·cases hc
 rename_i hn
 split at hc
 ·cases hc
 rename_i ho
 split at hc
 ·cases hc
 rename_i hm
 unfold zbr
 by_cases h5 : c.kind = 5
 ·rw [if_pos h5]
  exact ⟨h,.inl rfl,by simp only; omega,by simp only; omega⟩
 rw [if_neg h5]
 by_cases h1 : c.kind = 1
 ·rw [if_pos h1]
  by_cases ha : at1 l c.name < l.length
  ·rw [if_pos ha]
   exact ⟨zhe h ha (by omega) (by omega),.inl rfl,(hnum _ ha).1,(hnum _ ha).2⟩
  ·rw [if_neg ha]
   by_cases hf : 5 <= l.length
   ·rw [if_pos hf]
    exact ⟨h,.inr ⟨rfl,rfl⟩,by simp only; omega,by simp only; omega⟩
   ·rw [if_neg hf]
    have e : at1 l c.name = l.length:=by have:=zks l c.name; omega
    refine ⟨zi7 (by simp; omega) (fun j hj=>?_) (fun j k hjk hk=>?_),.inl rfl,by simp only; omega,by simp only; omega⟩
    ·simp only [List.length_append,List.length_cons,List.length_nil] at hj
     by_cases hj' : j < l.length
     ·rw [List.getD_eq_getElem?_getD,List.getElem?_append_left hj',<- List.getD_eq_getElem?_getD]
      exact h.at hj'
     ·rw [List.getD_eq_getElem?_getD,List.getElem?_append_right (by omega),show j - l.length = 0 by omega]
      show 1 <= c.name /\ c.name <= 255 /\ -1073741824 <= c.n /\ c.n <= 1073741824
      omega
    ·simp only [List.length_append,List.length_cons,List.length_nil] at hk
     rw [List.getD_eq_getElem?_getD,List.getElem?_append_left (by omega),<- List.getD_eq_getElem?_getD]
     by_cases hk' : k < l.length
     ·rw [List.getD_eq_getElem?_getD (i:=k),List.getElem?_append_left hk',<- List.getD_eq_getElem?_getD]
      intro he
      have:=h.uni (by omega) hk' he
      omega
     ·rw [List.getD_eq_getElem?_getD (i:=k),List.getElem?_append_right (by omega),show k - l.length = 0 by omega]
      exact zeA (name:=c.name) (by omega)
 rw [if_neg h1]
 by_cases ha : at1 l c.name < l.length
 case neg=>rw [if_pos ha]; exact ⟨h,.inr ⟨rfl,rfl⟩,by simp only; omega,by simp only; omega⟩
 rw [if_neg (by simpa using ha)]
 by_cases h2 : c.kind = 2
 ·rw [if_pos h2]; exact ⟨h,.inl rfl,(hnum _ ha).1,(hnum _ ha).2⟩
 rw [if_neg h2]
 by_cases h3 : c.kind = 3
 ·rw [if_pos h3]
  refine ⟨zi7 (by rw [zc5]; omega) (fun j hj=>?_) (fun j k hjk hk=>?_),.inl rfl,(hnum _ ha).1,(hnum _ ha).2⟩
  ·rw [zc5] at hj
   rw [zen l _ j ha hj]
   split
   ·exact h.at (by omega)
   ·exact h.at (by omega)
  ·rw [zc5] at hk
   rw [zen l _ j ha (by omega),zen l _ k ha hk]
   intro he
   by_cases ej : at1 l c.name = j
   ·rw [if_pos ej,if_neg (by omega)] at he
    have:=h.uni (by omega) (by omega) he
    omega
   ·rw [if_neg ej] at he
    by_cases ek : at1 l c.name = k
    ·rw [if_pos ek] at he
     have:=h.uni (by omega) (by omega) he
     omega
    ·rw [if_neg ek] at he
     have:=h.uni (by omega) (by omega) he
     omega
 rw [if_neg h3]
 by_cases h4 : c.kind = 4
 ·rw [if_pos h4]
  by_cases hs : -1073741824 <= num l (at1 l c.name) + c.n /\ num l (at1 l c.name) + c.n <= 1073741824
  ·rw [if_neg (by simpa using hs)]
   exact ⟨zhe h ha hs.1 hs.2,.inl rfl,hs.1,hs.2⟩
  ·rw [if_pos hs]; exact ⟨h,.inr ⟨rfl,rfl⟩,by simp only; omega,by simp only; omega⟩
 rw [if_neg h4]
 by_cases hb : at1 l c.other < l.length
 case neg=>rw [if_pos hb]; exact ⟨h,.inr ⟨rfl,rfl⟩,by simp only; omega,by simp only; omega⟩
 rw [if_neg (by simpa using hb)]
 exact ⟨zhe (zhe h ha (hnum _ hb).1 (hnum _ hb).2) (by rw [za7]; exact hb) (hnum _ ha).1 (hnum _ ha).2,.inl rfl,(hnum _ hb).1,(hnum _ hb).2⟩

open Go Go.RowKit

def zgS (s : List (Int × Int) × List (Int × Int)) (c : Cl) : List (Int × Int) × List (Int × Int):=((zbr s.1 c).1,s.2 ++ [((zbr s.1 c).2.err,(zbr s.1 c).2.n)])

def zdN (cs : List Cl) : List (Int × Int) × List (Int × Int):=cs.foldl zgS ([],[])

theorem zgR (cs : List Cl) (c : Cl) : zdN (cs ++ [c]) = zgS (zdN cs) c:=by simp [zdN]

theorem zl1 {cs : List Cl} {k : Nat} {c : Cl} (h : cs[k]? = some c) : zdN (cs.take (k + 1)) = zgS (zdN (cs.take k)) c:=by
 rw [List.take_add_one,h]
 exact zgR _ _

theorem okn_nil : Okn []:=zi7 (by simp) (fun i hi=>by simp at hi) (fun i j _ hj=>by simp at hj)

theorem zpW {cs : List Cl} (h : ∀ c ∈ cs,wrongCl c = 0) (k : Nat) : Okn (zdN (cs.take k)).1 /\ (zdN (cs.take k)).2.length = min k cs.length:=by
 induction k with
 | zero=>exact ⟨okn_nil,by simp [zdN]⟩
 | succ k ih =>
  by_cases hk : k < cs.length
  ·have hg : cs[k]? = some cs[k]:=List.getElem?_eq_getElem hk
   rw [zl1 hg]
   refine ⟨(zkb ih.1 (h _ (List.getElem_mem hk))).1,?_⟩
   simp only [zgS,List.length_append,List.length_cons,List.length_nil,ih.2]
   omega
  ·rw [List.take_of_length_le (by omega)]
   rw [List.take_of_length_le (by omega)] at ih
   exact ⟨ih.1,by rw [ih.2]; omega⟩

def zaO (xs : List Int) (n : Nat) : List (Int × Int):=(List.range n).map fun i=>(xs.getD (1 + 2 * i) 0,xs.getD (1 + 2 * i + 1) 0)

theorem zho (xs : List Int) (n : Nat) : zaO xs (n + 1) = zaO xs n ++ [(xs.getD (1 + 2 * n) 0,xs.getD (1 + 2 * n + 1) 0)]:=by simp [zaO,List.range_succ]

theorem zaT (xs : List Int) (n : Nat) : (zaO xs n).length = n:=by simp [zaO]

def zbA (l : List Rq) : List Value:=l.flatMap fun r=>[I r.client,I r.token,I r.call.kind,I r.call.name,I r.call.other,I r.call.n]

theorem zjh (l : List Rq) : (zbA l).length = l.length * 6:=by
 unfold zbA
 induction l with
 | nil=>rfl
 | cons p l ih=>simp [List.flatMap_cons,ih]; omega

theorem zna (l : List Rq) (k : Nat) (r : Rq) (h : l[k]? = some r) : (zbA l)[k * 6]? = some (I r.client) /\ (zbA l)[k * 6 + 1]? = some (I r.token) /\ (zbA l)[k * 6 + 2]? = some (I r.call.kind) /\
  (zbA l)[k * 6 + 3]? = some (I r.call.name) /\ (zbA l)[k * 6 + 4]? = some (I r.call.other) /\ (zbA l)[k * 6 + 5]? = some (I r.call.n):=by
 induction l generalizing k with
 | nil=>simp at h
 | cons p l ih =>
  cases k with
  | zero =>
   simp at h
   subst h
   exact ⟨rfl,rfl,rfl,rfl,rfl,rfl⟩
  | succ k =>
   have:=ih k (by simpa using h)
   rw [show (k + 1) * 6 = k * 6 + 6 by omega,show k * 6 + 6 + 1 = k * 6 + 1 + 6 by omega,show k * 6 + 6 + 2 = k * 6 + 2 + 6 by omega,show k * 6 + 6 + 3 = k * 6 + 3 + 6 by omega,show k * 6 + 6 + 4 = k * 6 + 4 + 6 by omega,show k * 6 + 6 + 5 = k * 6 + 5 + 6 by omega]
   exact this

def zpl (w : World) (v : Value) (l : List Rq) : Prop:=Row w 6 v l.length (zbA l)

theorem zpl.ext {w w' : World} {v : Value} {l : List Rq} (h : zpl w v l) (he : Ext w w') : zpl w' v l:=Row.ext h he

theorem zpl.form {w : World} {v : Value} {l : List Rq} (h : zpl w v l) : ∃ ao cap,v = .slice ao l.length cap /\ l.length <= cap /\ cap <= maxLen /\
  ∀ k r,l[k]? = some r -> ∃ b off,ao = some ⟨b,off,none⟩ /\ w.cell? ⟨b,off + k * 6,none⟩ = some (I r.client) /\ w.cell? ⟨b,off + k * 6 + 1,none⟩ = some (I r.token) /\ w.cell? ⟨b,off + k * 6 + 2,none⟩ = some (I r.call.kind) /\
   w.cell? ⟨b,off + k * 6 + 3,none⟩ = some (I r.call.name) /\ w.cell? ⟨b,off + k * 6 + 4,none⟩ = some (I r.call.other) /\ w.cell? ⟨b,off + k * 6 + 5,none⟩ = some (I r.call.n):=by
 obtain ⟨_,ao,cap,h2,h3,h4,_,h5⟩:=h
 refine ⟨ao,cap,h2,h3,h4,fun k r hk=>?_⟩
 obtain ⟨c0,c1,c2,c3,c4,c5⟩:=zna l k r hk
 obtain ⟨b,off,e,q0⟩:=h5 _ _ c0
 have all : ∀ j u,(zbA l)[j]? = some u -> w.cell? ⟨b,off + j,none⟩ = some u:=fun j u hj=>by
  obtain ⟨b',off',e',q⟩:=h5 j u hj
  rw [e] at e'
  simp only [Option.some.injEq,Addr.mk.injEq,and_true] at e'
  obtain ⟨rfl,rfl⟩:=e'
  exact q
 exact ⟨b,off,e,q0,all _ _ c1,all _ _ c2,all _ _ c3,all _ _ c4,all _ _ c5⟩

theorem zic (l : List (Int × Int)) (a o n : Int) : zbr l ⟨1,a,o,n⟩ = if at1 l a < l.length then (zcI l (at1 l a) n,⟨0,num l (at1 l a)⟩) else if 5 <= l.length then (l,⟨9,0⟩) else (l ++ [(a,n)],⟨0,0⟩):=rfl

theorem ziy (l : List (Int × Int)) (a o n : Int) : zbr l ⟨2,a,o,n⟩ = if ¬ at1 l a < l.length then (l,⟨6,0⟩) else (l,⟨0,num l (at1 l a)⟩):=rfl

theorem zgp (l : List (Int × Int)) (a o n : Int) : zbr l ⟨3,a,o,n⟩ = if ¬ at1 l a < l.length then (l,⟨6,0⟩) else ((l.set (at1 l a) (l.getD (l.length - 1) (0,0))).take (l.length - 1),⟨0,num l (at1 l a)⟩):=rfl

theorem zhm (l : List (Int × Int)) (a o n : Int) : zbr l ⟨4,a,o,n⟩ = if ¬ at1 l a < l.length then (l,⟨6,0⟩) else if ¬ (-1073741824 <= num l (at1 l a) + n /\ num l (at1 l a) + n <= 1073741824) then (l,⟨3,0⟩) else (zcI l (at1 l a) (num l (at1 l a) + n),⟨0,num l (at1 l a) + n⟩):=rfl

theorem zfv (l : List (Int × Int)) (a b n : Int) : zbr l ⟨6,a,b,n⟩ = if ¬ at1 l a < l.length then (l,⟨6,0⟩) else if ¬ at1 l b < l.length then (l,⟨6,0⟩)
  else (zcI (zcI l (at1 l a) (num l (at1 l b))) (at1 l b) (num l (at1 l a)),⟨0,num l (at1 l b)⟩):=rfl

theorem zem {k a o n : Int} (h : wrongCl ⟨k,a,o,n⟩ = 0) : (k = 1 ∨ k = 2 ∨ k = 3 ∨ k = 4 ∨ k = 5 ∨ k = 6) /\ (k = 1 ∨ k = 4 -> -1073741824 <= n /\ n <= 1073741824):=by
 unfold wrongCl at h
 dsimp only at h
 repeat' split at h
 all_goals first | exact absurd h (by decide) | (constructor <;> omega)

open Go Go.RowKit Go.ChangeShapes Go.WideShapes

section
variable {P : Program} {H : Type} {enc : TypeId × Value -> H} {W : World} {X : Type}

theorem znc {e : TypeId} {f0 f1 f2 f3 : Field} {fuel : Nat} {cs : List Value} {z : DataW H × List MemPlace} (he : P.underlying e = some (.struct #[f0,f1,f2,f3])) (hc : P.cellsOf e = 4)
  (h0 : P.underlying f0.type = some (.int .i64)) (h1 : P.underlying f1.type = some (.int .i64)) (h2 : P.underlying f2.type = some (.int .i64)) (h3 : P.underlying f3.type = some (.int .i64))
  (o0 : f0.offset = 0) (o1 : f1.offset = 1) (o2 : f2.offset = 2) (o3 : f3.offset = 3) (c0 : P.cellsOf f0.type = 1) (c1 : P.cellsOf f1.type = 1) (c2 : P.cellsOf f2.type = 1) (c3 : P.cellsOf f3.type = 1)
  (hz : DataW.trod enc P W 0 (fun _=>true) true fuel e cs = some z) : ∃ c : Cl,cs = [I c.kind,I c.name,I c.other,I c.n]:=by
 obtain ⟨y0,y1,y2,y3,m,hx,hcl,t0,t1,t2,t3⟩:=Go.Joins.trod_struct4 he hz
 rw [hc] at hcl
 obtain ⟨u0,u1,u2,u3,rfl⟩ : ∃ u0 u1 u2 u3,cs = [u0,u1,u2,u3]:=by
  match cs,hcl with
  | [u0,u1,u2,u3],_=>exact ⟨u0,u1,u2,u3,rfl⟩
 rw [o0,c0] at t0
 rw [o1,c1] at t1
 rw [o2,c2] at t2
 rw [o3,c3] at t3
 obtain ⟨x0,e0,_⟩:=DataW.trod_int h0 t0
 obtain ⟨x1,e1,_⟩:=DataW.trod_int h1 t1
 obtain ⟨x2,e2,_⟩:=DataW.trod_int h2 t2
 obtain ⟨x3,e3,_⟩:=DataW.trod_int h3 t3
 simp at e0 e1 e2 e3
 exact ⟨⟨x0,x1,x2,x3⟩,by rw [e0,e1,e2,e3]⟩

end
open Go Go.RowKit

abbrev U (b : UInt8) : Value:=.int .u8 (b.toNat : Int)

def zbb (w : World) (v : Value) (l : List UInt8) : Prop:=Row w 1 v l.length (l.map U)
theorem zbb.ext {w w' : World} {v : Value} {l : List UInt8} (h : zbb w v l) (he : Ext w w') : zbb w' v l:=Row.ext h he
theorem zbb.form {w : World} {v : Value} {l : List UInt8} (h : zbb w v l) : ∃ ao cap,v = .slice ao l.length cap /\ l.length <= cap /\ cap <= maxLen /\
  ∀ k,k < l.length -> ∃ b off,ao = some ⟨b,off,none⟩ /\ w.cell? ⟨b,off + k,none⟩ = some (U (l.getD k 0)):=by
 obtain ⟨_,ao,cap,h2,h3,h4,_,h5⟩:=h
 refine ⟨ao,cap,h2,h3,h4,fun k hk=>?_⟩
 exact h5 k _ (by simp [hk])
theorem zkR (l : List UInt8) : ∀ u ∈ l.map U,u.oneCell' = true:=by
 intro u hu
 obtain ⟨x,_,rfl⟩:=List.mem_map.1 hu
 rfl
theorem zgy {w : World} {base e n : Nat} {v : Value} {l : List UInt8} (h : w.ownsRow base e 1 v n (l.map U)) : zbb w v l:=by
 have hl : l.length = n:=by simpa using h.1
 subst hl
 exact Row.of_owns h
theorem zbd (w : World) : zbb w (.slice none 0 0) []:=zgy (World.ownsRow_nil w 0 0 1)
theorem zjV (l : List UInt8) : ∀ v,zcn (fun w=>zbb w v l):=fun _ _ _ he h=>zbb.ext h he

theorem zgl {w : World} (e : TypeId) (l : List UInt8) (cs : Array Value) (n : Nat) (hc : cs.toList = l.map U) (hn : l.length = n) (hm : n <= maxLen) : zbb (w.alloc (.cells cs e)) (.slice (some ⟨w.heap.size,0,none⟩) n n) l:=by
 subst hn
 have:=World.ownsRow_lit (base:=0) (e:=e) (size:=1) w cs l.length (Nat.zero_le _) hm (by rw [<- Array.length_toList,hc]; simp)
 rw [hc] at this
 exact zgy this

theorem ze0 {P : Program} {w : World} {v : Value} {l : List UInt8} (h : zbb w v l) {src dst e : TypeId} (hs : P.underlying src = some (.slice e)) (he : P.underlying e = some (.int .u8)) (hd : P.underlying dst = some .string) :
  (convert src dst v).run P w = .ok (.string ⟨l.toArray⟩) w:=by
 obtain ⟨hl,ao,cap,rfl,hc,hm,h0,hcell⟩:=h
 cases ao with
 | none =>
  have hcap:=h0 rfl
  subst hcap
  have hln : l = []:=List.eq_nil_of_length_eq_zero (by omega)
  subst hln
  rw [run_convert_bytes_string w src dst e _ _ _ hs he hd]
  rfl
 | some a =>
  refine run_convert_bytes_back w src dst e a cap l hs he hd (fun j hj=>?_)
  obtain ⟨b,off,e',hc'⟩:=hcell j (U l[j]) (by simp [hj])
  simp only [Option.some.injEq] at e'
  subst e'
  rw [add_plain]
  exact hc'

theorem zfO (w : World) (e : TypeId) (l : List UInt8) (hl : l.length <= maxLen) (fr : Nat × Nat) :
  zbb (w.drew.alloc (.cells (bytesRow ⟨l.toArray⟩ (grownCap w l.length 0 e)) e fr)) (.slice (some ⟨w.heap.size,0,none⟩) l.length (grownCap w l.length 0 e)) l:=by
 refine ⟨by simp,_,_,rfl,grownCap_ge _ _ _ _,grownCap_le_maxLen _ _ _ _ hl,(fun h=>by cases h),fun j u hj=>⟨w.heap.size,0,rfl,?_⟩⟩
 have hj' : j < l.length:=by have:=(List.getElem?_eq_some_iff.1 hj).1; simpa using this
 have:=World.cell?_alloc_mark w.drew (bytesRow ⟨l.toArray⟩ (grownCap w l.length 0 e)) e fr j
 rw [Nat.zero_add]
 refine Eq.trans this ?_
 rw [bytesRow_at _ _ _ (by simpa using hj')]
 simp [hj'] at hj
 simpa using hj

theorem zbb.drop {w : World} {l : List UInt8} {b off n cap : Nat} (h : zbb w (.slice (some ⟨b,off,none⟩) n cap) l) (k : Nat) (hk : k <= l.length) : zbb w (.slice (some ⟨b,off + k,none⟩) (l.length - k) (cap - k)) (l.drop k):=by
 obtain ⟨hl,ao',cap',h2,h3,h4,h0,h5⟩:=h
 simp only [Value.slice.injEq] at h2
 obtain ⟨rfl,rfl,rfl⟩:=h2
 have hd : (l.drop k).length = l.length - k:=List.length_drop
 unfold zbb
 rw [hd]
 refine ⟨by simp,_,_,rfl,by omega,by omega,(fun h=>by cases h),fun j u hj=>?_⟩
 rw [List.getElem?_map,List.getElem?_drop,<- List.getElem?_map] at hj
 obtain ⟨b',off',e',hc'⟩:=h5 (k + j) u hj
 simp only [Option.some.injEq,Addr.mk.injEq,and_true] at e'
 obtain ⟨rfl,rfl⟩:=e'
 exact ⟨b,off + k,rfl,by rw [Nat.add_assoc]; exact hc'⟩

def zdf (base : Nat) (w : World) (v : Value) (l : List UInt8) : Prop:=∃ b off n cap,v = .slice (some ⟨b,off,none⟩) n cap /\ base <= b /\ zbb w v l
theorem zdf.bytes {base : Nat} {w : World} {v : Value} {l : List UInt8} (h : zdf base w v l) : zbb w v l:=by
 obtain ⟨_,_,_,_,_,_,h⟩:=h
 exact h
theorem zeN (base : Nat) (l : List UInt8) : ∀ v,zcn (fun w=>zdf base w v l):=fun _ _ _ he ⟨b,o,n,c,e,hb,h⟩=>⟨b,o,n,c,e,hb,h.ext he⟩

open Go Go.RowKit

structure An where
 client : Int
 token : Int
 reply : Rp

def zbD (r : Rq) : Int:=if ¬ (0 <= r.client /\ r.client < 3 /\ 0 <= r.token /\ r.token < 8) then 3 else wrongCl r.call
def zbv (a : An) : Int :=
 if ¬ (0 <= a.client /\ a.client < 3 /\ 0 <= a.token /\ a.token < 8) ∨ a.reply.err < 0 ∨ 12 < a.reply.err ∨ 1073741824 < a.reply.n ∨ a.reply.n < -1073741824 ∨ (0 < a.reply.err /\ a.reply.n ≠ 0) then 3 else 0

def byteOf (n : Int) : UInt8:=UInt8.ofNat (n % 256).toNat
def u32 (n : Int) : Nat:=(n % 4294967296).toNat
def zdj (n : Int) : List UInt8:=[UInt8.ofNat (u32 n / 16777216),UInt8.ofNat (u32 n / 65536 % 256),UInt8.ofNat (u32 n / 256 % 256),UInt8.ofNat (u32 n % 256)]
def zlx (u : Nat) : Int:=if u < 2147483648 then (u : Int) else (u : Int) - 4294967296
def numB (b : List UInt8) : Int:=zlx ((((b.getD 0 0).toNat * 256 + (b.getD 1 0).toNat) * 256 + (b.getD 2 0).toNat) * 256 + (b.getD 3 0).toNat)

theorem zck {n : Int} (h0 : 0 <= n) (h1 : n <= 255) : ((byteOf n).toNat : Int) = n:=by
 unfold byteOf
 rw [UInt8.toNat_ofNat']
 omega
theorem zp1 (n : Int) : u32 n < 4294967296:=by unfold u32; omega
theorem zmU {n : Int} (h0 : -2147483648 <= n) (h1 : n < 2147483648) : zlx (u32 n) = n:=by
 unfold zlx u32
 split <;> omega
theorem zju {n : Int} (h0 : -2147483648 <= n) (h1 : n < 2147483648) : numB (zdj n) = n:=by
 have hu:=zp1 n
 unfold numB zdj
 simp only [List.getD_cons_zero,List.getD_cons_succ,UInt8.toNat_ofNat']
 have e : (((u32 n / 16777216 % 256) * 256 + u32 n / 65536 % 256 % 256) * 256 + u32 n / 256 % 256 % 256) * 256 + u32 n % 256 % 256 = u32 n:=by omega
 rw [show (2 ^ 8 : Nat) = 256 from rfl,e,zmU h0 h1]
def zeroRq : Rq:=⟨0,0,⟨0,0,0,0⟩⟩
def zeroAn : An:=⟨0,0,⟨0,0⟩⟩
def zcq (r : Rq) : List UInt8:=[113,byteOf r.client,byteOf r.token,byteOf r.call.kind,byteOf r.call.name,byteOf r.call.other] ++ zdj r.call.n
def zch (a : An) : List UInt8:=[97,byteOf a.client,byteOf a.token,byteOf a.reply.err] ++ zdj a.reply.n
def zoE (b : List UInt8) : Rq:=⟨(b.getD 1 0).toNat,(b.getD 2 0).toNat,⟨(b.getD 3 0).toNat,(b.getD 4 0).toNat,(b.getD 5 0).toNat,numB (b.drop 6)⟩⟩
def zoe (b : List UInt8) : An:=⟨(b.getD 1 0).toNat,(b.getD 2 0).toNat,⟨(b.getD 3 0).toNat,numB (b.drop 4)⟩⟩
def readRq (b : List UInt8) : Rq × Int :=
 if b.length ≠ 10 ∨ b.getD 0 0 ≠ 113 then (zeroRq,2) else if zbD (zoE b) ≠ 0 then (zeroRq,zbD (zoE b)) else (zoE b,0)
def readAn (b : List UInt8) : An × Int :=
 if b.length ≠ 8 ∨ b.getD 0 0 ≠ 97 then (zeroAn,2) else if zbv (zoe b) ≠ 0 then (zeroAn,zbv (zoe b)) else (zoe b,0)

theorem zdZ {r : Rq} (h : zbD r = 0) : (0 <= r.client /\ r.client < 3 /\ 0 <= r.token /\ r.token < 8) /\ wrongCl r.call = 0:=by
 unfold zbD at h
 split at h
 ·exact absurd h (by decide)
 ·rename_i hw
  exact ⟨by omega,h⟩
theorem zjj {c : Cl} (h : wrongCl c = 0) : (0 <= c.kind /\ c.kind <= 255) /\ (0 <= c.name /\ c.name <= 255) /\ (0 <= c.other /\ c.other <= 255) /\ (-1073741824 <= c.n /\ c.n <= 1073741824):=by
 unfold wrongCl at h
 repeat' split at h
 all_goals first | exact absurd h (by decide) | skip
 refine ⟨?_,?_,?_,?_⟩ <;> omega
theorem zgB {a : An} (h : zbv a = 0) : (0 <= a.client /\ a.client < 3 /\ 0 <= a.token /\ a.token < 8) /\ (0 <= a.reply.err /\ a.reply.err <= 12) /\ (-1073741824 <= a.reply.n /\ a.reply.n <= 1073741824) /\ (0 < a.reply.err -> a.reply.n = 0):=by
 unfold zbv at h
 split at h
 ·exact absurd h (by decide)
 ·rename_i hw
  omega
theorem zoN {r : Rq} (h : zbD r = 0) : zoE (zcq r) = r:=by
 obtain ⟨hw,hc⟩:=zdZ h
 obtain ⟨h1,h2,h3,h4⟩:=zjj hc
 obtain ⟨cl,tk,⟨k,a,o,n⟩⟩:=r
 simp only at *
 have e : zoE (zcq ⟨cl,tk,⟨k,a,o,n⟩⟩) = ⟨((byteOf cl).toNat : Int),((byteOf tk).toNat : Int),⟨((byteOf k).toNat : Int),((byteOf a).toNat : Int),((byteOf o).toNat : Int),numB (zdj n)⟩⟩:=rfl
 rw [e,zck (by omega) (by omega),zck (by omega) (by omega),zck h1.1 h1.2,zck h2.1 h2.2,zck h3.1 h3.2,zju (by omega) (by omega)]
theorem znQ {a : An} (h : zbv a = 0) : zoe (zch a) = a:=by
 obtain ⟨hw,h1,h2,_⟩:=zgB h
 obtain ⟨cl,tk,⟨e0,n⟩⟩:=a
 simp only at *
 have e : zoe (zch ⟨cl,tk,⟨e0,n⟩⟩) = ⟨((byteOf cl).toNat : Int),((byteOf tk).toNat : Int),⟨((byteOf e0).toNat : Int),numB (zdj n)⟩⟩:=rfl
 rw [e,zck (by omega) (by omega),zck (by omega) (by omega),zck (by omega) (by omega),zju (by omega) (by omega)]
theorem ziU {r : Rq} (h : zbD r = 0) : readRq (zcq r) = (r,0):=by
 have hl : (zcq r).length = 10:=rfl
 have h0 : (zcq r).getD 0 0 = 113:=rfl
 unfold readRq
 rw [if_neg (by rw [hl,h0]; simp),zoN h,if_neg (by simp [h])]
theorem ziu {a : An} (h : zbv a = 0) : readAn (zch a) = (a,0):=by
 have hl : (zch a).length = 8:=rfl
 have h0 : (zch a).getD 0 0 = 97:=rfl
 unfold readAn
 rw [if_neg (by rw [hl,h0]; simp),znQ h,if_neg (by simp [h])]
open Go Go.RowKit Go.ChangeShapes Go.WideShapes

section
variable {P : Program} {H : Type} {enc : TypeId × Value -> H} {W : World} {X : Type}

end
end Go.Mk

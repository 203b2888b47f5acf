/- Texts of the proof, merged: Math5 Math8 Math9 Mem4 Mem5 Read4 Read5. -/
import Derived.Test.YtdmipnnfoolelafKTC
import Derived.Test.YtdmipnnfoolelafKTA

namespace Go.Mk
open Go Go.RowKit

theorem zbS (xs:List Int) (n i:Nat) (h:i < n):(zaz xs n).getD i (0,0)=(xs.getD (1+2 * i) 0,xs.getD (1+2 * i+1) 0):=by
 simp [zaz,List.getD_eq_getElem?_getD,h]

/-! ### Right cells are cells whose zcu are right -/

theorem zic (xs:List Int) (name:Int):∀ n i,findIn xs name n i < 0↔∀ j,i<=j->j < i+n->xs.getD (1+2 * j) 0≠name
 | 0,i=>by
  constructor
  ·intro _ j h1 h2; omega
  ·intro _; simp [findIn]
 | n+1,i=>by
  rw [findIn]
  by_cases h:xs.getD (1+2 * i) 0=name
  ·rw [if_pos h]
   constructor
   ·intro h2; omega
   ·intro h2; exact absurd h (h2 i (Nat.le_refl _) (by omega))
  ·rw [if_neg h,zic xs name n (i+1)]
   constructor
   ·intro h2 j h3 h4
    by_cases e:j=i
    ·rw [e]; exact h
    ·exact h2 j (by omega) (by omega)
   ·intro h2 j h3 h4
    exact h2 j (by omega) (by omega)
theorem zfT (xs:List Int):∀ n i,zgR xs n i=0↔∀ j,i<=j->j < i+n->zfk xs j=0
 | 0,i=>by
  constructor
  ·intro _ j h1 h2; omega
  ·intro _; rfl
 | n+1,i=>by
  rw [zgR]
  by_cases h:zfk xs i=0
  ·rw [if_pos h,zfT xs n (i+1)]
   constructor
   ·intro h2 j h3 h4
    by_cases e:j=i
    ·rw [e]; exact h
    ·exact h2 j (by omega) (by omega)
   ·intro h2 j h3 h4
    exact h2 j (by omega) (by omega)
  ·rw [if_neg h]
   constructor
   ·intro h2; exact absurd h2 h
   ·intro h2; exact absurd (h2 i (Nat.le_refl _) (by omega)) h
theorem zeE (xs:List Int) (i:Nat):zfk xs i=0↔(1<=xs.getD (1+2 * i) 0/\xs.getD (1+2 * i) 0<=255/\-1073741824<=xs.getD (1+2 * i+1) 0/\xs.getD (1+2 * i+1) 0<=1073741824)/\∀ j,j < i->xs.getD (1+2 * j) 0≠xs.getD (1+2 * i) 0:=by
 unfold zfk
 rw [show 2+2 * i=1+2 * i+1 by omega]
 have hf:=zic xs (xs.getD (1+2 * i) 0) i 0
 by_cases h1:¬ (1<=xs.getD (1+2 * i) 0/\xs.getD (1+2 * i) 0<=255)∨¬ (-1073741824<=xs.getD (1+2 * i+1) 0/\xs.getD (1+2 * i+1) 0<=1073741824)
 ·rw [if_pos h1]
  constructor
  ·intro h; cases h
  ·intro h; omega
 ·rw [if_neg h1]
  by_cases h2:0<=findIn xs (xs.getD (1+2 * i) 0) i 0
  ·rw [if_pos h2]
   constructor
   ·intro h; cases h
   ·intro h
    have:=hf.2 (fun j _ h4=>h.2 j (by omega))
    omega
  ·rw [if_neg h2]
   constructor
   ·intro _
    exact ⟨by omega,fun j hj=>hf.1 (by omega) j (Nat.zero_le _) (by omega)⟩
   ·intro _; rfl
theorem zem (xs:List Int):zb8 xs=0↔xs.length=11/\0<=xs.getD 0 0/\xs.getD 0 0<=5/\Okn (zaz xs (xs.getD 0 0).toNat):=by
 unfold zb8
 by_cases h1:xs.length≠11
 ·rw [if_pos h1]
  constructor
  ·intro h; cases h
  ·intro h; exact absurd h.1 h1
 rw [if_neg h1]
 by_cases h2:¬ (0<=xs.getD 0 0/\xs.getD 0 0<=5)
 ·rw [if_pos h2]
  constructor
  ·intro h; cases h
  ·intro h; exact absurd ⟨h.2.1,h.2.2.1⟩ h2
 rw [if_neg h2,zfT]
 have hx:0<=xs.getD 0 0/\xs.getD 0 0<=5:=by simpa using h2
 constructor
 ·intro h
  refine ⟨by simpa using h1,hx.1,hx.2,zhb (by rw [zaF]; omega) (fun i hi=>?_) (fun i j hij hj=>?_)⟩
  ·rw [zaF] at hi
   rw [zbS _ _ _ hi]
   exact ((zeE xs i).1 (h i (Nat.zero_le _) (by omega))).1
  ·rw [zaF] at hj
   rw [zbS _ _ _ hj,zbS _ _ _ (by omega)]
   exact ((zeE xs j).1 (h j (Nat.zero_le _) (by omega))).2 i hij
 ·rintro ⟨_,_,_,hok⟩ j _ hj
  have hjl:j < (xs.getD 0 0).toNat:=by omega
  rw [zeE]
  have ha:=hok.at (i:=j) (by rw [zaF]; exact hjl)
  rw [zbS _ _ _ hjl] at ha
  refine ⟨ha,fun i hi e=>?_⟩
  have:=hok.uni (i:=i) (j:=j) (by rw [zaF]; omega) (by rw [zaF]; exact hjl) (by rw [zbS _ _ _ hjl,zbS _ _ _ (by omega)]; exact e)
  omega
theorem zbL (xs:List Int) (name:Int) (n:Nat):findIn xs name n 0=if at1 (zaz xs n) name < n then (at1 (zaz xs n) name:Int) else -1:=by
 have key:∀ m i,i+m=n->(∀ j,j < i->xs.getD (1+2 * j) 0≠name)->findIn xs name m i=if at1 (zaz xs n) name < n then (at1 (zaz xs n) name:Int) else -1:=by
  intro m
  induction m with
  | zero =>
   intro i hi hb
   have:at1 (zaz xs n) name=(zaz xs n).length:=zeX (fun j hj=>by rw [zaF] at hj; rw [zbS _ _ _ hj]; exact hb j (by omega))
   rw [zaF] at this
   rw [findIn,if_neg (by omega)]
  | succ m ih =>
   intro i hi hb
   rw [findIn]
   by_cases h:xs.getD (1+2 * i) 0=name
   ·have:at1 (zaz xs n) name=i:=zhz (by rw [zaF]; omega) (by rw [zbS _ _ _ (by omega)]; exact h) (fun j hj=>by rw [zbS _ _ _ (by omega)]; exact hb j hj)
    rw [if_pos h,this,if_pos (by omega)]
   ·rw [if_neg h]
    refine ih (i+1) (by omega) (fun j hj=>?_)
    by_cases e:j=i
    ·rw [e]; exact h
    ·exact hb j (by omega)
 exact key n 0 (by omega) (fun j hj=>by omega)

/-! ### The writes of a call -/

def zfy (xs:List Int):Prop:=xs.length=11/\0<=xs.getD 0 0/\xs.getD 0 0<=5/\Okw (zaz xs (xs.getD 0 0).toNat)
theorem zfy.c {xs:List Int} (h:zfy xs):xs.length=11/\0<=xs.getD 0 0/\xs.getD 0 0<=5:=⟨h.1,h.2.1,h.2.2.1⟩
theorem znC {xs:List Int} (h:zb8 xs=0):zfy xs:=by
 obtain ⟨h1,h2,h3,h4⟩:=(zem xs).1 h
 exact ⟨h1,h2,h3,h4.w⟩

def zex (l:List (Int×Int)) (c:Cl):List (Int×Int) :=
 if c.kind=1 then
  if at1 l c.name < l.length then [(2+2 * (at1 l c.name:Int),c.n)] else [(1+2 * (l.length:Int),c.name),(2+2 * (l.length:Int),c.n),(0,(l.length:Int)+1)]
 else if c.kind=3 then
  if at1 l c.name+1 < l.length then [(1+2 * (at1 l c.name:Int),(l.getD (l.length - 1) (0,0)).1),(2+2 * (at1 l c.name:Int),(l.getD (l.length - 1) (0,0)).2),(0,(l.length:Int) - 1)] else [(0,(l.length:Int) - 1)]
 else if c.kind=4 then [(2+2 * (at1 l c.name:Int),num l (at1 l c.name)+c.n)]
 else if c.kind=6 then [(2+2 * (at1 l c.name:Int),num l (at1 l c.other)),(2+2 * (at1 l c.other:Int),num l (at1 l c.name))]
 else []

def za8 (l:List (Int×Int)) (c:Cl):List (Int×Int):=if (za5 l c).2.err≠0 then [] else zex l c

theorem zmV (l:List (Int×Int)) (c:Cl):(za8 l c).length<=3:=by
 unfold za8 zex
 repeat' split
 all_goals simp

theorem zlV {ds:List Int} {l:List (Int×Int)} (h0:ds.getD 0 0=(l.length:Int)) (hp:∀ i,i < l.length->ds.getD (1+2 * i) 0=(l.getD i (0,0)).1/\ds.getD (1+2 * i+1) 0=(l.getD i (0,0)).2):zaz ds (ds.getD 0 0).toNat=l:=by
 rw [h0]
 refine zfW (by rw [zaF]; omega) fun i hi=>?_
 rw [zaF] at hi
 rw [zbS _ _ _ hi]
 have:=hp i (by omega)
 exact Prod.ext this.1 this.2

theorem znr {xs:List Int} {c:Cl} {l:List (Int×Int)} (hl:xs.length=11) (x0:0<=xs.getD 0 0) (hll:xs.getD 0 0=(l.length:Int)) (hat:∀ i,i < l.length->xs.getD (1+2 * i) 0=(l.getD i (0,0)).1/\xs.getD (1+2 * i+1) 0=(l.getD i (0,0)).2)
  (hok:Okn l) (hc:wrongCl c=0) :
  (zao xs (za8 l c)).getD 0 0=((za5 l c).1.length:Int)/\∀ i,i < (za5 l c).1.length->(zao xs (za8 l c)).getD (1+2 * i) 0=((za5 l c).1.getD i (0,0)).1/\(zao xs (za8 l c)).getD (1+2 * i+1) 0=((za5 l c).1.getD i (0,0)).2:=by
 have h5:=hok.len
 have hset:∀ W j,j < 11->(zao xs W).getD j 0=lastAt W j (xs.getD j 0):=fun W j hj=>zij xs W j (by omega)
 have hkk:=ziu hok hc
 by_cases he:(za5 l c).2.err≠0
 ·have e1:za8 l c=[]:=by unfold za8; rw [if_pos he]
  have e2:(za5 l c).1=l:=by
   rcases hkk.2.1 with h | h
   ·exact absurd h he
   ·exact h.2
  rw [e1,e2]
  exact ⟨hll,hat⟩
 have he':(za5 l c).2.err=0:=by simpa using he
 rw [show za8 l c=zex l c from if_neg he]
 clear hkk
 unfold zex
 obtain ⟨k,a,o,n⟩:=c
 simp only
 have hk:k=1∨k=2∨k=3∨k=4∨k=5∨k=6:=by
  unfold wrongCl at hc
  split at hc
  ·cases hc
  ·rename_i h; simp at h; omega
 rcases hk with rfl | rfl | rfl | rfl | rfl | rfl
 ·rw [if_pos rfl]
  have hd:za5 l ⟨1,a,o,n⟩=if at1 l a < l.length then (zch l (at1 l a) n,⟨0,num l (at1 l a)⟩) else if 5<=l.length then (l,⟨9,0⟩) else (l++[(a,n)],⟨0,0⟩):=rfl
  by_cases ha:at1 l a < l.length
  ·rw [if_pos ha]
   rw [hd,if_pos ha]
   simp only [zaH]
   refine ⟨?_,fun i hi=>?_⟩
   ·rw [hset _ _ (by omega)]
    simp only [lastAt,List.foldl]
    rw [if_neg (by omega)]; exact hll
   ·rw [hset _ _ (by omega),hset _ _ (by omega),zcE _ _ _ _ ha,zeu _ _ _ _ ha]
    simp only [lastAt,List.foldl]
    rw [if_neg (by omega)]
    refine ⟨(hat i hi).1,?_⟩
    by_cases e:at1 l a=i
    ·rw [if_pos (by omega),if_pos e]
    ·rw [if_neg (by omega),if_neg e]; exact (hat i hi).2
  ·rw [hd,if_neg ha] at he' ⊢
   rw [if_neg ha]
   by_cases hf:5<=l.length
   ·rw [if_pos hf] at he'; simp at he'
   rw [if_neg hf]
   simp only [List.length_append,List.length_cons,List.length_nil]
   refine ⟨?_,fun i hi=>?_⟩
   ·rw [hset _ _ (by omega)]
    simp only [lastAt,List.foldl]
    rw [if_pos (by omega)]; omega
   ·rw [hset _ _ (by omega),hset _ _ (by omega)]
    simp only [lastAt,List.foldl]
    by_cases e:i < l.length
    ·rw [if_neg (by omega),if_neg (by omega),if_neg (by omega),if_neg (by omega),if_neg (by omega),if_neg (by omega)]
     rw [List.getD_eq_getElem?_getD (l:=l++[(a,n)]),List.getElem?_append_left e,<- List.getD_eq_getElem?_getD]
     exact hat i e
    ·have e2:i=l.length:=by omega
     subst e2
     rw [if_neg (by omega),if_neg (by omega),if_pos (by omega),if_neg (by omega),if_pos (by omega)]
     simp
 ·rw [if_neg (by decide),if_neg (by decide),if_neg (by decide),if_neg (by decide)]
  have hd:(za5 l ⟨2,a,o,n⟩).1=l:=by
   show (if ¬ at1 l a < l.length then (l,(⟨6,0⟩:Rp)) else (l,⟨0,num l (at1 l a)⟩)).1=l
   split <;> rfl
  rw [hd]
  exact ⟨hll,hat⟩
 ·rw [if_neg (by decide),if_pos rfl]
  have hd:za5 l ⟨3,a,o,n⟩=if ¬ at1 l a < l.length then (l,⟨6,0⟩) else ((l.set (at1 l a) (l.getD (l.length - 1) (0,0))).take (l.length - 1),⟨0,num l (at1 l a)⟩):=rfl
  by_cases ha:at1 l a < l.length
  case neg=>rw [hd,if_pos ha] at he'; simp at he'
  rw [if_neg (by simpa using ha)] at hd
  rw [hd]
  simp only [zcs]
  have hpt:∀ i,i < l.length - 1->((l.set (at1 l a) (l.getD (l.length - 1) (0,0))).take (l.length - 1)).getD i (0,0)=if at1 l a=i then l.getD (l.length - 1) (0,0) else l.getD i (0,0):=fun i hi=>zc4 l _ i ha hi
  by_cases hb:at1 l a+1 < l.length
  ·rw [if_pos hb]
   refine ⟨?_,fun i hi=>?_⟩
   ·rw [hset _ _ (by omega)]
    simp only [lastAt,List.foldl]
    rw [if_pos (by omega)]; omega
   ·rw [hset _ _ (by omega),hset _ _ (by omega),hpt i hi]
    simp only [lastAt,List.foldl]
    by_cases e:at1 l a=i
    ·rw [if_pos e]
     constructor
     ·rw [if_neg (by omega),if_neg (by omega),if_pos (by omega)]
     ·rw [if_neg (by omega),if_pos (by omega)]
    ·rw [if_neg e]
     constructor
     ·rw [if_neg (by omega),if_neg (by omega),if_neg (by omega)]; exact (hat i (by omega)).1
     ·rw [if_neg (by omega),if_neg (by omega),if_neg (by omega)]; exact (hat i (by omega)).2
  ·rw [if_neg hb]
   refine ⟨?_,fun i hi=>?_⟩
   ·rw [hset _ _ (by omega)]
    simp only [lastAt,List.foldl]
    rw [if_pos (by omega)]; omega
   ·rw [hset _ _ (by omega),hset _ _ (by omega),hpt i hi,if_neg (by omega)]
    simp only [lastAt,List.foldl]
    rw [if_neg (by omega),if_neg (by omega)]
    exact hat i (by omega)
 ·rw [if_neg (by decide),if_neg (by decide),if_pos rfl]
  have hd:za5 l ⟨4,a,o,n⟩=if ¬ at1 l a < l.length then (l,⟨6,0⟩) else if ¬ (-1073741824<=num l (at1 l a)+n/\num l (at1 l a)+n<=1073741824) then (l,⟨3,0⟩) else (zch l (at1 l a) (num l (at1 l a)+n),⟨0,num l (at1 l a)+n⟩):=rfl
  by_cases ha:at1 l a < l.length
  case neg=>rw [hd,if_pos ha] at he'; simp at he'
  rw [hd,if_neg (by simpa using ha)] at he' ⊢
  by_cases hs:-1073741824<=num l (at1 l a)+n/\num l (at1 l a)+n<=1073741824
  case neg=>rw [if_pos hs] at he'; simp at he'
  rw [if_neg (by simpa using hs)]
  simp only [zaH]
  refine ⟨?_,fun i hi=>?_⟩
  ·rw [hset _ _ (by omega)]
   simp only [lastAt,List.foldl]
   rw [if_neg (by omega)]; exact hll
  ·rw [hset _ _ (by omega),hset _ _ (by omega),zcE _ _ _ _ ha,zeu _ _ _ _ ha]
   simp only [lastAt,List.foldl]
   rw [if_neg (by omega)]
   refine ⟨(hat i hi).1,?_⟩
   by_cases e:at1 l a=i
   ·rw [if_pos (by omega),if_pos e]
   ·rw [if_neg (by omega),if_neg e]; exact (hat i hi).2
 ·rw [if_neg (by decide),if_neg (by decide),if_neg (by decide),if_neg (by decide)]
  exact ⟨hll,hat⟩
 ·rw [if_neg (by decide),if_neg (by decide),if_neg (by decide),if_pos rfl]
  have hd:za5 l ⟨6,a,o,n⟩=if ¬ at1 l a < l.length then (l,⟨6,0⟩) else if ¬ at1 l o < l.length then (l,⟨6,0⟩)
   else (zch (zch l (at1 l a) (num l (at1 l o))) (at1 l o) (num l (at1 l a)),⟨0,num l (at1 l o)⟩):=rfl
  by_cases ha:at1 l a < l.length
  case neg=>rw [hd,if_pos ha] at he'; simp at he'
  rw [hd,if_neg (by simpa using ha)] at he' ⊢
  by_cases hb:at1 l o < l.length
  case neg=>rw [if_pos hb] at he'; simp at he'
  rw [if_neg (by simpa using hb)]
  have hb2:at1 l o < (zch l (at1 l a) (num l (at1 l o))).length:=by rw [zaH]; exact hb
  simp only [zaH]
  refine ⟨?_,fun i hi=>?_⟩
  ·rw [hset _ _ (by omega)]
   simp only [lastAt,List.foldl]
   rw [if_neg (by omega),if_neg (by omega)]; exact hll
  ·rw [hset _ _ (by omega),hset _ _ (by omega),zcE _ _ _ _ hb2,zcE _ _ _ _ ha,zeu _ _ _ _ hb2,zeu _ _ _ _ ha]
   simp only [lastAt,List.foldl]
   rw [if_neg (by omega),if_neg (by omega)]
   refine ⟨(hat i hi).1,?_⟩
   by_cases e:at1 l o=i
   ·rw [if_pos (by omega),if_pos e]
   ·rw [if_neg (by omega),if_neg e]
    by_cases e2:at1 l a=i
    ·rw [if_pos (by omega),if_pos e2]
    ·rw [if_neg (by omega),if_neg e2]; exact (hat i hi).2

theorem zkd {xs:List Int} {c:Cl} (hx:zb8 xs=0) (hc:wrongCl c=0) :
  zb8 (zao xs (za8 (zaz xs (xs.getD 0 0).toNat) c))=0 /\
  zaz (zao xs (za8 (zaz xs (xs.getD 0 0).toNat) c)) ((zao xs (za8 (zaz xs (xs.getD 0 0).toNat) c)).getD 0 0).toNat=(za5 (zaz xs (xs.getD 0 0).toNat) c).1:=by
 obtain ⟨hl,x0,x5,hok⟩:=(zem xs).1 hx
 have hll:xs.getD 0 0=((zaz xs (xs.getD 0 0).toNat).length:Int):=by rw [zaF]; omega
 obtain ⟨h1,h2⟩:=znr (c:=c) hl x0 hll (fun i hi=>by rw [zaF] at hi; rw [zbS _ _ _ hi]; exact ⟨rfl,rfl⟩) hok hc
 have e:=zlV h1 h2
 refine ⟨?_,e⟩
 have hd:=ziu hok hc
 rw [zem,e]
 have:=hd.1.len
 exact ⟨by rw [zbe]; exact hl,by omega,by omega,hd.1⟩

open Go Go.RowKit

structure St where
 cells:List Int
 undo:List (Int×Int)
 answers:List An
 past:List Rq

theorem St.ext' {s t:St} (h1:s.cells=t.cells) (h2:s.undo=t.undo) (h3:s.answers=t.answers) (h4:s.past=t.past):s=t:=by
 cases s; cases t; simp at *; exact ⟨h1,h2,h3,h4⟩

def newSt:St:=⟨List.replicate 11 0,[],[],[]⟩
def zak (s:St) (p:Int×Int):St :=
 if 0<=p.1/\p.1 < (s.cells.length:Int) then { s with cells:=zde s.cells p,undo:=(p.1,s.cells.getD p.1.toNat 0)::s.undo } else s
def zaK (s:St):St:={ s with cells:=zao s.cells s.undo,undo:=[] }
def zb2:List An->An->List An
 | [],a=>[a]
 | x::l,a=>if x.client=a.client then a::l else x::zb2 l a
def zb0 (s:St) (r:Rq) (says:Rp):St:=⟨s.cells,[],zb2 s.answers ⟨r.client,r.token,says⟩,s.past++[r]⟩
def lastAn:List An->Int->An×Bool
 | [],_=>(zeroAn,false)
 | x::l,c=>if x.client=c then (x,true) else lastAn l c
theorem zmZ (l:List An) (a:An):lastAn (zb2 l a) a.client=(a,true):=by
 induction l with
 | nil=>simp [zb2,lastAn]
 | cons x l ih =>
  unfold zb2
  by_cases h:x.client=a.client
  ·rw [if_pos h]; simp [lastAn]
  ·rw [if_neg h,lastAn,if_neg h]; exact ih
theorem zkm (l:List An) (a:An) (c:Int) (hc:c≠a.client):lastAn (zb2 l a) c=lastAn l c:=by
 induction l with
 | nil=>simp [zb2,lastAn]; intro h; exact absurd h.symm hc
 | cons x l ih =>
  unfold zb2
  by_cases h:x.client=a.client
  ·rw [if_pos h,lastAn,lastAn,if_neg (fun e=>hc e.symm),if_neg (fun e=>hc (e.symm.trans h))]
  ·rw [if_neg h,lastAn,lastAn,ih]
theorem zi5 (l:List An) (a:An):(zb2 l a).length<=l.length+1:=by
 induction l with
 | nil=>simp [zb2]
 | cons x l ih =>
  unfold zb2
  split
  ·simp
  ·simp; omega

theorem zlS (xs:List Int) (p:Int×Int) (h0:0<=p.1) (h1:p.1 < (xs.length:Int)):zde (zde xs p) (p.1,xs.getD p.1.toNat 0)=xs:=by
 obtain ⟨i,hi⟩:∃ i:Nat,p.1=(i:Int):=⟨p.1.toNat,by omega⟩
 have hl:i < xs.length:=by omega
 have hlen:(zde xs p).length=xs.length:=by have:=zbe xs [p]; simpa [zao] using this
 have hlen2:(zde (zde xs p) (p.1,xs.getD p.1.toNat 0)).length=xs.length:=by have:=zbe (zde xs p) [(p.1,xs.getD p.1.toNat 0)]; rw [hlen] at this; simpa [zao] using this
 refine List.ext_getElem? fun j=>?_
 by_cases hj:j < xs.length
 ·have a1:=ziE (zde xs p) (p.1,xs.getD p.1.toNat 0) j (by omega)
  have a2:=ziE xs p j hj
  rw [a2] at a1
  rw [List.getD_eq_getElem?_getD,List.getElem?_eq_getElem (by omega)] at a1
  rw [List.getElem?_eq_getElem (by omega),List.getElem?_eq_getElem hj]
  simp only [Option.getD_some] at a1
  rw [a1]
  congr 1
  by_cases hp:p.1=(j:Int)
  ·rw [if_pos hp,hp]; simp [hj]
  ·rw [if_neg hp,if_neg hp]; simp [hj]
 ·rw [List.getElem?_eq_none (by omega),List.getElem?_eq_none (by omega)]

theorem zks (s:St) (p:Int×Int):zaK (zak s p)=zaK s:=by
 unfold zak
 by_cases h:0<=p.1/\p.1 < (s.cells.length:Int)
 ·rw [if_pos h]
  unfold zaK
  refine St.ext' ?_ rfl rfl rfl
  show zao (zde s.cells p) ((p.1,s.cells.getD p.1.toNat 0)::s.undo)=zao s.cells s.undo
  have:zao (zde s.cells p) ((p.1,s.cells.getD p.1.toNat 0)::s.undo)=zao (zde (zde s.cells p) (p.1,s.cells.getD p.1.toNat 0)) s.undo:=rfl
  rw [this,zlS _ _ h.1 h.2]
 ·rw [if_neg h]
theorem ziS (s:St) (p:Int×Int):(zak s p).cells.length=s.cells.length:=by
 unfold zak
 split
 ·show (zde s.cells p).length=_
  have:=zbe s.cells [p]; simpa [zao] using this
 ·rfl
open Go Go.RowKit

structure Sv where
 gen:Int
 box:List (List UInt8)
 busy:Bool
 now:Rq
 plan:List (Int×Int)
 says:Rp

structure Cn where
 calls:List Cl
 at_:Int
 sent:Bool
 gen:Int
 box:List (List UInt8)
 got:List Rp

structure Mc where
 store:St
 server:Sv
 up:Bool
 pause:Int
 falls:Int
 clients:List Cn

def zcU (gen:Int) (box:List (List UInt8)):Sv:=⟨gen,box,false,zeroRq,[],⟨0,0⟩⟩

def zcD (v:Sv) (b:List UInt8):Sv×Int:=if 3<=v.box.length then (v,9) else ({ v with box:=v.box++[b] },0)

def zaZ (xs:List Int):List (Int×Int):=zaz xs (xs.getD 0 0).toNat

def zaM (s:St) (v:Sv):St×Sv×List UInt8×Int :=
 if v.busy then
  match v.plan with
  | p::l=>(zak s p,{ v with plan:=l },[],0)
  | []=>(zb0 s v.now v.says,zcU v.gen v.box,zce ⟨v.now.client,v.now.token,v.says⟩,0)
 else
  match v.box with
  | []=>(s,v,[],12)
  | b::l =>
   let v':Sv:={ v with box:=l }
   if (readRq b).2≠0 then (s,v',[],0)
   else
    let r:=(readRq b).1
    let a:=lastAn s.answers r.client
    if a.2/\r.token<=a.1.token then
     if a.1.token=r.token then (s,v',zce a.1,0) else (s,v',[],0)
    else (s,{ v' with busy:=true,now:=r,plan:=za8 (zaZ s.cells) r.call,says:=(za5 (zaZ s.cells) r.call).2 },[],0)

def zfV (falls:Int):Int:=if falls < 1 then 1 else if 3 < falls then 3 else falls

def ze6 (m:Mc):Mc×Int :=
 if ¬ m.up then (m,11) else if 6<=m.falls then (m,5)
 else ({ m with falls:=m.falls+1,up:=false,pause:=zfV (m.falls+1),server:=zcU m.server.gen [] },0)

def zfC (m:Mc):Mc :=
 if m.up then m else if 1 < m.pause then { m with pause:=m.pause - 1 }
 else { m with up:=true,pause:=0,store:=zaK m.store,server:=zcU (m.server.gen+1) [] }

def zdW (c:Cn) (me gen:Int) (up:Bool):Cn×List UInt8×Int :=
 match c.box with
 | b::l =>
  let c':Cn:={ c with box:=l }
  let a:=readAn b
  if a.2=0/\a.1.client=me/\a.1.token=c.at_/\c.sent=true then ({ c' with got:=c.got++[a.1.reply],at_:=c.at_+1,sent:=false },[],0)
  else (c',[],0)
 | [] =>
  if (c.calls.length:Int)<=c.at_ then (c,[],11)
  else if ¬ up then (c,[],10)
  else if c.sent/\c.gen=gen then (c,[],12)
  else ({ c with sent:=true,gen:=gen },zc0 ⟨me,c.at_,c.calls.getD c.at_.toNat ⟨0,0,0,0⟩⟩,0)

def zdf (c:Cn) (b:List UInt8):Cn:=if c.box.length < 3 then { c with box:=c.box++[b] } else c

def zcC (calls:List Cl):Cn:=⟨calls,0,false,0,[],[]⟩
def newMc (l:List (List Cl)):Mc:=⟨newSt,zcU 0 [],true,0,0,l.map zcC⟩
def zbm (l:List (List Cl)):Prop:=l.length<=3/\∀ c ∈ l,c.length<=8/\∀ x ∈ c,wrongCl x=0

def doM (m:Mc) (kind n:Int):Mc×Int :=
 if kind=1 then
  if n < 0∨(m.clients.length:Int)<=n then (m,6)
  else
   let c:=zdW (m.clients.getD n.toNat (zcC [])) n m.server.gen m.up
   if c.2.2≠0 then (m,c.2.2)
   else if c.2.1≠[] then
    let v:=zcD m.server c.2.1
    if v.2≠0 then (m,v.2) else ({ m with server:=v.1,clients:=m.clients.set n.toNat c.1 },0)
   else ({ m with clients:=m.clients.set n.toNat c.1 },0)
 else if kind=2 then
  if ¬ m.up then (m,10)
  else
   let x:=zaM m.store m.server
   if x.2.2.2≠0 then (m,x.2.2.2)
   else
    let m':Mc:={ m with store:=x.1,server:=x.2.1 }
    if x.2.2.1≠[] then
     let k:=(x.2.2.1.getD 1 0).toNat
     if k < m.clients.length then ({ m' with clients:=m.clients.set k (zdf (m.clients.getD k (zcC [])) x.2.2.1) },0) else (m',0)
    else (m',0)
 else if kind=3 then ze6 m
 else if kind=4 then (zfC m,0)
 else (m,1)

def zdc (m:Mc) (steps:List (Int×Int)):Mc:=steps.foldl (fun m s=>(doM m s.1 s.2).1) m

open Go Go.RowKit

def zfa:El Cl:=fun _ c x=>c=[I x.kind,I x.name,I x.other,I x.n]
def ziR:El An:=fun _ c x=>c=[I x.client,I x.token,I x.reply.err,I x.reply.n]
def zes:El Rq:=fun _ c x=>c=[I x.client,I x.token,I x.call.kind,I x.call.name,I x.call.other,I x.call.n]
def zdA:El Rp:=fun _ c x=>c=[I x.err,I x.n]
def zcV:El (List UInt8):=fun w c x=>∃ v,c=[v]/\zbk w v x
def zdb:El (List Cl):=fun w c x=>∃ v,c=[v]/\zaq 4 zfa w v x

theorem zj5:zeV zfa:=fun _ _ _ _ _ h=>h
theorem zmj:zeV ziR:=fun _ _ _ _ _ h=>h
theorem zc1:zeV zes:=fun _ _ _ _ _ h=>h
theorem zgZ:zeV zdA:=fun _ _ _ _ _ h=>h
theorem zog:zeV zcV:=fun _ _ _ _ he ⟨v,e,h⟩=>⟨v,e,h.ext he⟩
theorem zb9 {l:List Value} (h:l.all (fun u=>u.oneCell')=true):∀ u ∈ l,u.oneCell'=true:=fun u hu=>List.all_eq_true.1 h u hu
theorem zk8 {w:World} {size n:Nat} {v:Value} {cs:List Value} (h:Row w size v n cs):v.oneCell'=true:=by
 obtain ⟨_,ao,cap,rfl,_⟩:=h
 rfl
theorem zgp {X:Type} {R:El X} {w:World} {size:Nat} {v:Value} {xs:List X} (h:zaq size R w v xs):v.oneCell'=true:=by
 obtain ⟨_,_,h⟩:=h
 exact zk8 h
theorem znU:zon zcV:=fun _ _ _ ⟨v,e,h⟩ u hu=>by
 rw [e] at hu
 simp at hu
 rw [hu]
 exact zk8 h
def zdw:El Cn:=fun w c x=>∃ calls box got,c=[calls,I x.at_,.bool x.sent,I x.gen,box,got]/\zaq 4 zfa w calls x.calls/\zaq 1 zcV w box x.box/\zaq 2 zdA w got x.got
theorem zj1:zeV zdw:=fun _ _ _ _ he ⟨a,b,d,e,h1,h2,h3⟩=>⟨a,b,d,e,h1.ext zj5 he,h2.ext zog he,h3.ext zgZ he⟩
theorem znQ:zon zdw:=fun _ _ _ ⟨a,b,d,e,h1,h2,h3⟩ u hu=>by
 rw [e] at hu
 simp at hu
 rcases hu with rfl | rfl | rfl | rfl | rfl | rfl
 ·exact zgp h1
 ·rfl
 ·rfl
 ·rfl
 ·exact zgp h2
 ·exact zgp h3

def zcm:El St:=fun w c x=>∃ a b d e,c=[a,b,d,e]/\zbo w a x.cells/\zan w b x.undo/\zaq 4 ziR w d x.answers/\zaq 6 zes w e x.past
theorem zkT:zeV zcm:=fun _ _ _ _ he ⟨a,b,d,e,h,h1,h2,h3,h4⟩=>⟨a,b,d,e,h,h1.ext he,h2.ext he,h3.ext zmj he,h4.ext zc1 he⟩

def zhD:El Sv:=fun w c x=>∃ box plan,c=[I x.gen,box,.bool x.busy,I x.now.client,I x.now.token,I x.now.call.kind,I x.now.call.name,I x.now.call.other,I x.now.call.n,plan,I x.says.err,I x.says.n] /\
 zaq 1 zcV w box x.box/\zan w plan x.plan
def zec:El Mc:=fun w c x=>∃ s v cl,c=s++v++[.bool x.up,I x.pause,I x.falls,cl]/\zcm w s x.store/\zhD w v x.server/\zaq 6 zdw w cl x.clients
theorem zbz {X:Type} {f:X->List Value} {size:Nat} {w:World} {v:Value} {xs:List X} (hf:∀ x,(f x).length=size):zaq size (fun _ c x=>c=f x) w v xs↔Row w size v xs.length (xs.flatMap f):=by
 constructor
 ·rintro ⟨css,he,hr⟩
  rw [ziI (f:=f) he.1 (fun i c x hc hx=>(he.2 i c x hc hx).2)] at hr
  exact hr
 ·intro h
  refine ⟨xs.map f,⟨by simp,fun i c x hc hx=>?_⟩,?_⟩
  ·rw [List.getElem?_map,hx] at hc
   simp at hc
   subst hc
   exact ⟨hf x,rfl⟩
  ·rw [<- List.flatMap_def]
   exact h
theorem zbI {w:World} {v:Value} {l:List Rq}:zaq 6 zes w v l↔zln w v l:=zbz (f:=fun (r:Rq)=>[I r.client,I r.token,I r.call.kind,I r.call.name,I r.call.other,I r.call.n]) (fun _=>rfl)

open Go Go.RowKit

def zmx (φ:World->Prop):Prop:=∀ w w',(∀ k,k < w.heap.size->w'.heap[k]?=w.heap[k]?)->φ w->φ w'
def zjQ {X:Type} (R:El X):Prop:=∀ w w' c x,(∀ k,k < w.heap.size->w'.heap[k]?=w.heap[k]?)->R w c x->R w' c x

def Rd (A:Nat->Prop) (φ:World->Prop) (w:World):Prop:=∀ w':World,(∀ k,A k->k < w.heap.size->w'.heap[k]?=w.heap[k]?)->φ w'

theorem Rd.o {A:Nat->Prop} {φ:World->Prop} {w:World} (h:Rd A φ w):φ w:=h w (fun _ _ _=>rfl)
theorem Rd.ext {A:Nat->Prop} {φ:World->Prop} {w w':World} (h:Rd A φ w) (he:Ext w w'):Rd A φ w':=fun w2 h2=>h w2 (fun k ha hk=>by
 rw [h2 k ha (Nat.lt_of_lt_of_le hk he.size)]
 exact he.block k hk)
theorem Rd.mono (A:Nat->Prop) (φ:World->Prop):zb7 (Rd A φ):=fun _ _ he h=>h.ext he
theorem Rd.grown {A:Nat->Prop} {φ:World->Prop} {w w':World} {row:Option Nat} (h:Rd A φ w) (hg:w.grownBy w' row) (hr:∀ b,row=some b->¬ A b):Rd A φ w':=fun w2 h2=>h w2 (fun k ha hk=>by
 rw [h2 k ha (Nat.lt_of_lt_of_le hk hg.size)]
 exact hg.block k hk (fun e=>hr k e.symm ha))
theorem Rd.set {A:Nat->Prop} {φ:World->Prop} {w:World} (h:Rd A φ w) {b:Nat} (hb:¬ A b) (i:Nat) (x:Value):Rd A φ (w.setCell ⟨b,i,none⟩ x):=fun w2 h2=>h w2 (fun k ha hk=>by
 rw [h2 k ha (by simpa using hk)]
 exact Below.heap_setCell w _ x k (fun e=>hb (by have e:k=b:=e; rw [<- e]; exact ha)))
theorem Rd.imp {A:Nat->Prop} {φ ψ:World->Prop} {w:World} (h:Rd A φ w) (hi:∀ w',φ w'->ψ w'):Rd A ψ w:=fun w2 h2=>hi w2 (h w2 h2)
theorem Rd.and {A:Nat->Prop} {φ ψ:World->Prop} {w:World} (h:Rd A φ w) (k:Rd A ψ w):Rd A (fun w=>φ w/\ψ w) w:=fun w2 h2=>⟨h w2 h2,k w2 h2⟩
theorem Rd.left {A:Nat->Prop} {φ ψ:World->Prop} {w:World} (h:Rd A (fun w=>φ w/\ψ w) w):Rd A φ w:=h.imp fun _ h=>h.1
theorem Rd.right {A:Nat->Prop} {φ ψ:World->Prop} {w:World} (h:Rd A (fun w=>φ w/\ψ w) w):Rd A ψ w:=h.imp fun _ h=>h.2
theorem Rd.widen {A B:Nat->Prop} {φ:World->Prop} {w:World} (h:Rd A φ w) (hi:∀ k,k < w.heap.size->A k->B k):Rd B φ w:=fun w2 h2=>h w2 (fun k ha hk=>h2 k (hi k hk ha) hk)
theorem Rd.of {φ:World->Prop} (hp:zmx φ) {w:World} (h:φ w):Rd (fun k=>k < w.heap.size) φ w:=fun w2 h2=>hp w w2 (fun k hk=>h2 k hk hk) h
theorem Rd.all {A:Nat->Prop} {φ:World->Prop} {w:World} (h:∀ w,φ w):Rd A φ w:=fun w2 _=>h w2

theorem Row.heap {w w':World} {size:Nat} {v:Value} {n:Nat} {cs:List Value} (h:Row w size v n cs) (hk:∀ (j:Nat) (u:Value) (b off:Nat),cs[j]?=some u->(∃ m cap,v=.slice (some ⟨b,off,none⟩) m cap)->w'.heap[b]?=w.heap[b]?):Row w' size v n cs:=by
 obtain ⟨h1,ao,cap,h2,h3,h4,h0,h5⟩:=h
 refine ⟨h1,ao,cap,h2,h3,h4,h0,fun j u hj=>?_⟩
 obtain ⟨b,off,e,hc⟩:=h5 j u hj
 refine ⟨b,off,e,?_⟩
 have:=hk j u b off hj ⟨_,_,by rw [h2,e]⟩
 simp only [World.cell?,this] at hc ⊢
 exact hc
theorem zi9 (size:Nat) (v:Value) (n:Nat) (cs:List Value):zmx (fun w=>Row w size v n cs):=fun w w' hk h=>by
 obtain ⟨h1,ao,cap,h2,h3,h4,h0,h5⟩:=h
 refine ⟨h1,ao,cap,h2,h3,h4,h0,fun j u hj=>?_⟩
 obtain ⟨b,off,e,hc⟩:=h5 j u hj
 refine ⟨b,off,e,?_⟩
 have hb:b < w.heap.size:=by
  by_cases hb:b < w.heap.size
  ·exact hb
  ·simp [World.cell?,Array.getElem?_eq_none (Nat.le_of_not_lt hb)] at hc
 simp only [World.cell?,hk b hb] at hc ⊢
 exact hc
theorem zcS {X:Type} {size:Nat} {R:El X} (hR:zjQ R) (v:Value) (xs:List X):zmx (fun w=>zaq size R w v xs):=fun _ _ hk ⟨css,he,hr⟩ =>
 ⟨css,⟨he.1,fun i c x hc hx=>⟨(he.2 i c x hc hx).1,hR _ _ _ _ hk (he.2 i c x hc hx).2⟩⟩,zi9 _ _ _ _ _ _ hk hr⟩

theorem zoq:zjQ zfa:=fun _ _ _ _ _ h=>h
theorem zn1:zjQ zdA:=fun _ _ _ _ _ h=>h
theorem zgb:zjQ zdb:=fun _ _ _ _ hk ⟨v,e,h⟩=>⟨v,e,zcS zoq _ _ _ _ hk h⟩
theorem zdY {base e size n:Nat} {v:Value} {cs:List Value} {w:World} (h:w.ownsRow base e size v n cs):Rd (fun k=>base<=k) (fun w=>Row w size v n cs) w:=fun w2 h2=>by
 refine Row.heap (Row.of_owns h) (fun j u b off hj ⟨m,cap,e⟩=>?_)
 rcases h.2 with ⟨rfl,_⟩ | ⟨g,cap',cur,rfl,hb,hg,_⟩
 ·cases e
 ·simp at e
  obtain ⟨⟨rfl,_⟩,_⟩:=e
  exact h2 g hb (Array.getElem?_eq_some_iff.1 hg).1
theorem zfj {base e n:Nat} {v:Value} {xs:List Int} {w:World} (h:w.ownsRow base e 1 v n (xs.map I)):Rd (fun k=>base<=k) (fun w=>zbo w v xs) w:=by
 have hl:xs.length=n:=by simpa using h.1
 subst hl
 exact zdY h
theorem zgw {base e n:Nat} {v:Value} {l:List (Int×Int)} {w:World} (h:w.ownsRow base e 2 v n (zat l)):Rd (fun k=>base<=k) (fun w=>zan w v l) w:=by
 have hl:l.length=n:=by have:=h.1; rw [zcG] at this; omega
 subst hl
 exact zdY h

def zaU (P:Program) (f:FuncId) (args:Array Value) (w:World) (A:Nat->Prop) (T:Value->World->Prop):Prop :=
 Calls P f args w fun e w'=>∃ r,e=.returned r/\Ext w w'/\Rd (fun k=>A k∨w.heap.size<=k) (T r) w'

theorem zaU.to {P:Program} {f:FuncId} {args:Array Value} {w:World} {A:Nat->Prop} {T:Value->World->Prop} {Q:Ending->World->Prop} (h:zaU P f args w A T) (k:∀ r w',Ext w w'->Rd (fun k=>A k∨w.heap.size<=k) (T r) w'->Q (.returned r) w'):Calls P f args w Q :=
 Calls.mono h fun e w' ⟨r,he,hx,ht⟩=>by rw [he]; exact k r w' hx ht
theorem zaU.gives {P:Program} {f:FuncId} {args:Array Value} {w:World} {A:Nat->Prop} {T:Value->World->Prop} (h:zaU P f args w A T):zba P f args w T :=
 Calls.mono h fun _ _ ⟨r,he,hx,ht⟩=>⟨r,he,hx,ht.o⟩

def Agg {X:Type} (R:El X) (x:X) (v:Value) (w:World):Prop:=∃ cs:List Value,v=.agg cs.toArray/\R w cs x
theorem zdU {X:Type} {R:El X} {x:X} {v:Value} {A:Nat->Prop} {w:World} (h:Rd A (Agg R x v) w):∃ cs:List Value,v=.agg cs.toArray/\Rd A (fun w=>R w cs x) w:=by
 obtain ⟨cs,e,_⟩:=h.o
 refine ⟨cs,e,fun w2 h2=>?_⟩
 obtain ⟨cs2,e2,h3⟩:=h w2 h2
 rw [e] at e2
 have:cs=cs2:=by simpa using e2
 rw [this]
 exact h3
theorem zdm {X:Type} {R:El X} {x:X} {cs:List Value} {A:Nat->Prop} {w:World} (h:Rd A (fun w=>R w cs x) w):Rd A (Agg R x (.agg cs.toArray)) w:=h.imp fun _ h=>⟨cs,rfl,h⟩
theorem zdB {w:World} {a b d e:Value} {s:St}:zcm w [a,b,d,e] s↔zbo w a s.cells/\zan w b s.undo/\zaq 4 ziR w d s.answers/\zaq 6 zes w e s.past:=by
 constructor
 ·rintro ⟨a',b',d',e',h,h1,h2,h3,h4⟩
  simp at h
  obtain ⟨rfl,rfl,rfl,rfl⟩:=h
  exact ⟨h1,h2,h3,h4⟩
 ·rintro ⟨h1,h2,h3,h4⟩
  exact ⟨a,b,d,e,rfl,h1,h2,h3,h4⟩
theorem zd4 {A:Nat->Prop} {w:World} {cs:List Value} {s:St} (h:Rd A (fun w=>zcm w cs s) w):∃ a b d e,cs=[a,b,d,e]/\Rd A (fun w=>zbo w a s.cells) w/\Rd A (fun w=>zan w b s.undo) w/\Rd A (fun w=>zaq 4 ziR w d s.answers) w/\Rd A (fun w=>zaq 6 zes w e s.past) w:=by
 obtain ⟨a,b,d,e,rfl,_⟩:=h.o
 have h2:=h.imp fun _ h=>zdB.1 h
 exact ⟨a,b,d,e,rfl,h2.left,h2.right.left,h2.right.right.left,h2.right.right.right⟩
theorem zcW {A:Nat->Prop} {w:World} {a b d e:Value} {s:St} (h1:Rd A (fun w=>zbo w a s.cells) w) (h2:Rd A (fun w=>zan w b s.undo) w) (h3:Rd A (fun w=>zaq 4 ziR w d s.answers) w) (h4:Rd A (fun w=>zaq 6 zes w e s.past) w):Rd A (fun w=>zcm w [a,b,d,e] s) w :=
 (h1.and (h2.and (h3.and h4))).imp fun _ h=>zdB.2 h

theorem zei (A:Nat->Prop) (s n:Nat):∃ B:Nat->Prop,(∀ k,k < s->A k->B k)/\(∀ k,s+n<=k->B k)/\(∀ k,s<=k->k < s+n->¬ B k)/\∀ k,B k->A k∨s<=k :=
 ⟨fun k=>(A k/\k < s)∨s+n<=k,fun k h1 h2=>.inl ⟨h2,h1⟩,fun _ h=>.inr h,fun k h1 h2 h=>by rcases h with ⟨_,h⟩ | h <;> omega,fun k h=>by rcases h with ⟨h,_⟩ | h; exact .inl h; exact .inr (by omega)⟩
theorem zam {w:World} {size n:Nat} {v:Value} {cs:List Value} (h:Row w size v n cs):∃ ao cap,v=.slice ao n cap:=by
 obtain ⟨_,ao,cap,e,_⟩:=h
 exact ⟨ao,cap,e⟩
theorem zac {X:Type} {R:El X} {w:World} {size:Nat} {v:Value} {xs:List X} (h:zaq size R w v xs):∃ ao cap,v=.slice ao xs.length cap:=by
 obtain ⟨_,_,h⟩:=h
 exact zam h

open Go Go.RowKit Go.ChangeShapes Go.WideShapes

section
variable {P:Program} {H:Type} {enc:TypeId×Value->H} {W:World} {X:Type}

theorem zjG {t e:TypeId} {sz:Nat} (hsz:0 < sz) (R:El X) (ht:P.underlying t=some (.slice e)) (hc:P.cellsOf e=sz)
  (hR:∀ fuel cs z,DataW.trod enc P W 0 (fun _=>true) true fuel e cs=some z->cs.length=sz->∃ x,R W cs x) {fuel:Nat} {v:Value} {z:DataW H×List MemPlace} (hz:DataW.trod enc P W 0 (fun _=>true) true fuel t [v]=some z):∃ xs:List X,zaq sz R W v xs:=by
 obtain ⟨d,p⟩:=z
 obtain ⟨xs,css,hr,hl,hq,-⟩:=zhC (X:=X) hsz (fun cs x=>R W cs x) ht hc hR rfl hz
 exact ⟨xs,css,⟨hl,hq⟩,hr⟩

end
open Go Go.RowKit Go.ChangeShapes Go.WideShapes

section
variable {P:Program} {H:Type} {enc:TypeId×Value->H} {W:World}

theorem zeY {t e e2:TypeId} {f0 f1 f2 f3:Field} {v:Value} {d:DataW H} {p:List MemPlace} (ht:P.underlying t=some (.slice e)) (hu:P.underlying e=some (.slice e2)) (h1:P.cellsOf e=1) (he:P.underlying e2=some (.struct #[f0,f1,f2,f3])) (hc:P.cellsOf e2=4)
  (t0:P.underlying f0.type=some (.int .i64)) (t1:P.underlying f1.type=some (.int .i64)) (t2:P.underlying f2.type=some (.int .i64)) (t3:P.underlying f3.type=some (.int .i64))
  (o0:f0.offset=0) (o1:f1.offset=1) (o2:f2.offset=2) (o3:f3.offset=3) (c0:P.cellsOf f0.type=1) (c1:P.cellsOf f1.type=1) (c2:P.cellsOf f2.type=1) (c3:P.cellsOf f3.type=1)
  {b0:Nat} (hv:Value.okWide P W .any b0 t v) (h:DataW.Trod enc P W 0 (fun _=>true) true t v d p):∃ l:List (List Cl),zaq 1 zdb W v l:=by
 obtain ⟨a0,len,cap,rfl⟩:=okWide_slice ht hv
 obtain ⟨fuel,hf⟩:=h
 refine zjG (X:=List Cl) (by decide) zdb ht h1 (fun fuel cs z hz hl=>?_) hf
 match cs,hl with
 | [u],_ =>
  obtain ⟨xs,hx⟩:=zjG (X:=Cl) (by decide) zfa hu hc (fun fuel cs z hz _=>zlM he hc t0 t1 t2 t3 o0 o1 o2 o3 c0 c1 c2 c3 hz) hz
  exact ⟨xs,u,rfl,hx⟩

end
end Go.Mk

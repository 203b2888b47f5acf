/- Texts of the proof, merged: Math5 Math7 Math8 Math9 Mem4 Read3 Mem5 Read4 Read5 Mem6. -/
import Derived.Test.YtdmipnnfoolelagGreatKTB
import Derived.Test.YtdmipnnfoolelagGreatKTA
import Derived.ArgAppend

namespace Go.Mk
open Go Go.RowKit

theorem zcw (xs:List Int) (n i:Nat) (h:i < n):(zaK xs n).getD i (0,0)=(xs.getD (1+2 * i) 0,xs.getD (1+2 * i+1) 0):=by
 simp [zaK,List.getD_eq_getElem?_getD,h]

/-! ### Right cells are cells whose zdX are right -/

theorem zkm (xs:List Int) (name:Int):∀ n i,findIn xs name n i < 0↔∀ j,i<=j->j < i+n->xs.getD (1+2 * j) 0≠name
 | 0,i=>by
  constructor
  ·intro _ j h1 h2; omega
  ·intro _; simp [findIn]
 | n+1,i=>by
  rw [findIn]
  by_cases h:xs.getD (1+2 * i) 0=name
  ·rw [if_pos h]
   constructor
   ·intro h2; omega
   ·intro h2; exact absurd h (h2 i (Nat.le_refl _) (by omega))
  ·rw [if_neg h,zkm xs name n (i+1)]
   constructor
   ·intro h2 j h3 h4
    by_cases e:j=i
    ·rw [e]; exact h
    ·exact h2 j (by omega) (by omega)
   ·intro h2 j h3 h4
    exact h2 j (by omega) (by omega)
theorem zhM (xs:List Int):∀ n i,ziA xs n i=0↔∀ j,i<=j->j < i+n->zgJ xs j=0
 | 0,i=>by
  constructor
  ·intro _ j h1 h2; omega
  ·intro _; rfl
 | n+1,i=>by
  rw [ziA]
  by_cases h:zgJ xs i=0
  ·rw [if_pos h,zhM xs n (i+1)]
   constructor
   ·intro h2 j h3 h4
    by_cases e:j=i
    ·rw [e]; exact h
    ·exact h2 j (by omega) (by omega)
   ·intro h2 j h3 h4
    exact h2 j (by omega) (by omega)
  ·rw [if_neg h]
   constructor
   ·intro h2; exact absurd h2 h
   ·intro h2; exact absurd (h2 i (Nat.le_refl _) (by omega)) h
theorem zfU (xs:List Int) (i:Nat):zgJ xs i=0↔(1<=xs.getD (1+2 * i) 0/\xs.getD (1+2 * i) 0<=255/\-1073741824<=xs.getD (1+2 * i+1) 0/\xs.getD (1+2 * i+1) 0<=1073741824)/\∀ j,j < i->xs.getD (1+2 * j) 0≠xs.getD (1+2 * i) 0:=by
 unfold zgJ
 rw [show 2+2 * i=1+2 * i+1 by omega]
 have hf:=zkm xs (xs.getD (1+2 * i) 0) i 0
 by_cases h1:¬ (1<=xs.getD (1+2 * i) 0/\xs.getD (1+2 * i) 0<=255)∨¬ (-1073741824<=xs.getD (1+2 * i+1) 0/\xs.getD (1+2 * i+1) 0<=1073741824)
 ·rw [if_pos h1]
  constructor
  ·intro h; cases h
  ·intro h; omega
 ·rw [if_neg h1]
  by_cases h2:0<=findIn xs (xs.getD (1+2 * i) 0) i 0
  ·rw [if_pos h2]
   constructor
   ·intro h; cases h
   ·intro h
    have:=hf.2 (fun j _ h4=>h.2 j (by omega))
    omega
  ·rw [if_neg h2]
   constructor
   ·intro _
    exact ⟨by omega,fun j hj=>hf.1 (by omega) j (Nat.zero_le _) (by omega)⟩
   ·intro _; rfl
theorem zgK (xs:List Int):zdk xs=0↔xs.length=11/\0<=xs.getD 0 0/\xs.getD 0 0<=5/\Okn (zaK xs (xs.getD 0 0).toNat):=by
 unfold zdk
 by_cases h1:xs.length≠11
 ·rw [if_pos h1]
  constructor
  ·intro h; cases h
  ·intro h; exact absurd h.1 h1
 rw [if_neg h1]
 by_cases h2:¬ (0<=xs.getD 0 0/\xs.getD 0 0<=5)
 ·rw [if_pos h2]
  constructor
  ·intro h; cases h
  ·intro h; exact absurd ⟨h.2.1,h.2.2.1⟩ h2
 rw [if_neg h2,zhM]
 have hx:0<=xs.getD 0 0/\xs.getD 0 0<=5:=by simpa using h2
 constructor
 ·intro h
  refine ⟨by simpa using h1,hx.1,hx.2,zi1 (by rw [zaU]; omega) (fun i hi=>?_) (fun i j hij hj=>?_)⟩
  ·rw [zaU] at hi
   rw [zcw _ _ _ hi]
   exact ((zfU xs i).1 (h i (Nat.zero_le _) (by omega))).1
  ·rw [zaU] at hj
   rw [zcw _ _ _ hj,zcw _ _ _ (by omega)]
   exact ((zfU xs j).1 (h j (Nat.zero_le _) (by omega))).2 i hij
 ·rintro ⟨_,_,_,hok⟩ j _ hj
  have hjl:j < (xs.getD 0 0).toNat:=by omega
  rw [zfU]
  have ha:=hok.at (i:=j) (by rw [zaU]; exact hjl)
  rw [zcw _ _ _ hjl] at ha
  refine ⟨ha,fun i hi e=>?_⟩
  have:=hok.uni (i:=i) (j:=j) (by rw [zaU]; omega) (by rw [zaU]; exact hjl) (by rw [zcw _ _ _ hjl,zcw _ _ _ (by omega)]; exact e)
  omega
theorem zb7 (xs:List Int) (name:Int) (n:Nat):findIn xs name n 0=if at1 (zaK xs n) name < n then (at1 (zaK xs n) name:Int) else -1:=by
 have key:∀ m i,i+m=n->(∀ j,j < i->xs.getD (1+2 * j) 0≠name)->findIn xs name m i=if at1 (zaK xs n) name < n then (at1 (zaK xs n) name:Int) else -1:=by
  intro m
  induction m with
  | zero =>
   intro i hi hb
   have:at1 (zaK xs n) name=(zaK xs n).length:=zgn (fun j hj=>by rw [zaU] at hj; rw [zcw _ _ _ hj]; exact hb j (by omega))
   rw [zaU] at this
   rw [findIn,if_neg (by omega)]
  | succ m ih =>
   intro i hi hb
   rw [findIn]
   by_cases h:xs.getD (1+2 * i) 0=name
   ·have:at1 (zaK xs n) name=i:=ziO (by rw [zaU]; omega) (by rw [zcw _ _ _ (by omega)]; exact h) (fun j hj=>by rw [zcw _ _ _ (by omega)]; exact hb j hj)
    rw [if_pos h,this,if_pos (by omega)]
   ·rw [if_neg h]
    refine ih (i+1) (by omega) (fun j hj=>?_)
    by_cases e:j=i
    ·rw [e]; exact h
    ·exact hb j (by omega)
 exact key n 0 (by omega) (fun j hj=>by omega)

/-! ### The writes of a call -/

def zfd (xs:List Int):Prop:=xs.length=11/\0<=xs.getD 0 0/\xs.getD 0 0<=5/\Okw (zaK xs (xs.getD 0 0).toNat)
theorem zfd.c {xs:List Int} (h:zfd xs):xs.length=11/\0<=xs.getD 0 0/\xs.getD 0 0<=5:=⟨h.1,h.2.1,h.2.2.1⟩
theorem znS {xs:List Int} (h:zdk xs=0):zfd xs:=by
 obtain ⟨h1,h2,h3,h4⟩:=(zgK xs).1 h
 exact ⟨h1,h2,h3,h4.w⟩

def zcP (l:List (Int×Int)) (c:Cl):List (Int×Int) :=
 if c.kind=1 then
  if at1 l c.name < l.length then [(2+2 * (at1 l c.name:Int),c.n)] else [(1+2 * (l.length:Int),c.name),(2+2 * (l.length:Int),c.n),(0,(l.length:Int)+1)]
 else if c.kind=3 then
  if at1 l c.name+1 < l.length then [(1+2 * (at1 l c.name:Int),(l.getD (l.length - 1) (0,0)).1),(2+2 * (at1 l c.name:Int),(l.getD (l.length - 1) (0,0)).2),(0,(l.length:Int) - 1)] else [(0,(l.length:Int) - 1)]
 else if c.kind=4 then [(2+2 * (at1 l c.name:Int),num l (at1 l c.name)+c.n)]
 else if c.kind=6 then [(2+2 * (at1 l c.name:Int),num l (at1 l c.other)),(2+2 * (at1 l c.other:Int),num l (at1 l c.name))]
 else []

def zbn (l:List (Int×Int)) (c:Cl):List (Int×Int):=if (zbk l c).2.err≠0 then [] else zcP l c

theorem ziG (l:List (Int×Int)) (c:Cl):(zbn l c).length<=3:=by
 unfold zbn zcP
 repeat' split
 all_goals simp

theorem zoP {ds:List Int} {l:List (Int×Int)} (h0:ds.getD 0 0=(l.length:Int)) (hp:∀ i,i < l.length->ds.getD (1+2 * i) 0=(l.getD i (0,0)).1/\ds.getD (1+2 * i+1) 0=(l.getD i (0,0)).2):zaK ds (ds.getD 0 0).toNat=l:=by
 rw [h0]
 refine zhK (by rw [zaU]; omega) fun i hi=>?_
 rw [zaU] at hi
 rw [zcw _ _ _ hi]
 have:=hp i (by omega)
 exact Prod.ext this.1 this.2

theorem zqM {xs:List Int} {c:Cl} {l:List (Int×Int)} (hl:xs.length=11) (x0:0<=xs.getD 0 0) (hll:xs.getD 0 0=(l.length:Int)) (hat:∀ i,i < l.length->xs.getD (1+2 * i) 0=(l.getD i (0,0)).1/\xs.getD (1+2 * i+1) 0=(l.getD i (0,0)).2)
  (hok:Okn l) (hc:wrongCl c=0) :
  (zaB xs (zbn l c)).getD 0 0=((zbk l c).1.length:Int)/\∀ i,i < (zbk l c).1.length->(zaB xs (zbn l c)).getD (1+2 * i) 0=((zbk l c).1.getD i (0,0)).1/\(zaB xs (zbn l c)).getD (1+2 * i+1) 0=((zbk l c).1.getD i (0,0)).2:=by
 have h5:=hok.len
 have hset:∀ W j,j < 11->(zaB xs W).getD j 0=lastAt W j (xs.getD j 0):=fun W j hj=>zky xs W j (by omega)
 have hkk:=zlg hok hc
 by_cases he:(zbk l c).2.err≠0
 ·have e1:zbn l c=[]:=by unfold zbn; rw [if_pos he]
  have e2:(zbk l c).1=l:=by
   rcases hkk.2.1 with h | h
   ·exact absurd h he
   ·exact h.2
  rw [e1,e2]
  exact ⟨hll,hat⟩
 have he':(zbk l c).2.err=0:=by simpa using he
 rw [show zbn l c=zcP l c from if_neg he]
 clear hkk
 unfold zcP
 obtain ⟨k,a,o,n⟩:=c
 simp only
 have hk:k=1∨k=2∨k=3∨k=4∨k=5∨k=6:=by
  unfold wrongCl at hc
  split at hc
  ·cases hc
  ·rename_i h; simp at h; omega
 rcases hk with rfl | rfl | rfl | rfl | rfl | rfl
 ·rw [if_pos rfl]
  have hd:zbk l ⟨1,a,o,n⟩=if at1 l a < l.length then (zct l (at1 l a) n,⟨0,num l (at1 l a)⟩) else if 5<=l.length then (l,⟨9,0⟩) else (l++[(a,n)],⟨0,0⟩):=rfl
  by_cases ha:at1 l a < l.length
  ·rw [if_pos ha]
   rw [hd,if_pos ha]
   simp only [zaQ]
   refine ⟨?_,fun i hi=>?_⟩
   ·rw [hset _ _ (by omega)]
    simp only [lastAt,List.foldl]
    rw [if_neg (by omega)]; exact hll
   ·rw [hset _ _ (by omega),hset _ _ (by omega),zdH _ _ _ _ ha,zfD _ _ _ _ ha]
    simp only [lastAt,List.foldl]
    rw [if_neg (by omega)]
    refine ⟨(hat i hi).1,?_⟩
    by_cases e:at1 l a=i
    ·rw [if_pos (by omega),if_pos e]
    ·rw [if_neg (by omega),if_neg e]; exact (hat i hi).2
  ·rw [hd,if_neg ha] at he' ⊢
   rw [if_neg ha]
   by_cases hf:5<=l.length
   ·rw [if_pos hf] at he'; simp at he'
   rw [if_neg hf]
   simp only [List.length_append,List.length_cons,List.length_nil]
   refine ⟨?_,fun i hi=>?_⟩
   ·rw [hset _ _ (by omega)]
    simp only [lastAt,List.foldl]
    rw [if_pos (by omega)]; omega
   ·rw [hset _ _ (by omega),hset _ _ (by omega)]
    simp only [lastAt,List.foldl]
    by_cases e:i < l.length
    ·rw [if_neg (by omega),if_neg (by omega),if_neg (by omega),if_neg (by omega),if_neg (by omega),if_neg (by omega)]
     rw [List.getD_eq_getElem?_getD (l:=l++[(a,n)]),List.getElem?_append_left e,<- List.getD_eq_getElem?_getD]
     exact hat i e
    ·have e2:i=l.length:=by omega
     subst e2
     rw [if_neg (by omega),if_neg (by omega),if_pos (by omega),if_neg (by omega),if_pos (by omega)]
     simp
 ·rw [if_neg (by decide),if_neg (by decide),if_neg (by decide),if_neg (by decide)]
  have hd:(zbk l ⟨2,a,o,n⟩).1=l:=by
   show (if ¬ at1 l a < l.length then (l,(⟨6,0⟩:Rp)) else (l,⟨0,num l (at1 l a)⟩)).1=l
   split <;> rfl
  rw [hd]
  exact ⟨hll,hat⟩
 ·rw [if_neg (by decide),if_pos rfl]
  have hd:zbk l ⟨3,a,o,n⟩=if ¬ at1 l a < l.length then (l,⟨6,0⟩) else ((l.set (at1 l a) (l.getD (l.length - 1) (0,0))).take (l.length - 1),⟨0,num l (at1 l a)⟩):=rfl
  by_cases ha:at1 l a < l.length
  case neg=>rw [hd,if_pos ha] at he'; simp at he'
  rw [if_neg (by simpa using ha)] at hd
  rw [hd]
  simp only [zcV]
  have hpt:∀ i,i < l.length - 1->((l.set (at1 l a) (l.getD (l.length - 1) (0,0))).take (l.length - 1)).getD i (0,0)=if at1 l a=i then l.getD (l.length - 1) (0,0) else l.getD i (0,0):=fun i hi=>zd5 l _ i ha hi
  by_cases hb:at1 l a+1 < l.length
  ·rw [if_pos hb]
   refine ⟨?_,fun i hi=>?_⟩
   ·rw [hset _ _ (by omega)]
    simp only [lastAt,List.foldl]
    rw [if_pos (by omega)]; omega
   ·rw [hset _ _ (by omega),hset _ _ (by omega),hpt i hi]
    simp only [lastAt,List.foldl]
    by_cases e:at1 l a=i
    ·rw [if_pos e]
     constructor
     ·rw [if_neg (by omega),if_neg (by omega),if_pos (by omega)]
     ·rw [if_neg (by omega),if_pos (by omega)]
    ·rw [if_neg e]
     constructor
     ·rw [if_neg (by omega),if_neg (by omega),if_neg (by omega)]; exact (hat i (by omega)).1
     ·rw [if_neg (by omega),if_neg (by omega),if_neg (by omega)]; exact (hat i (by omega)).2
  ·rw [if_neg hb]
   refine ⟨?_,fun i hi=>?_⟩
   ·rw [hset _ _ (by omega)]
    simp only [lastAt,List.foldl]
    rw [if_pos (by omega)]; omega
   ·rw [hset _ _ (by omega),hset _ _ (by omega),hpt i hi,if_neg (by omega)]
    simp only [lastAt,List.foldl]
    rw [if_neg (by omega),if_neg (by omega)]
    exact hat i (by omega)
 ·rw [if_neg (by decide),if_neg (by decide),if_pos rfl]
  have hd:zbk l ⟨4,a,o,n⟩=if ¬ at1 l a < l.length then (l,⟨6,0⟩) else if ¬ (-1073741824<=num l (at1 l a)+n/\num l (at1 l a)+n<=1073741824) then (l,⟨3,0⟩) else (zct l (at1 l a) (num l (at1 l a)+n),⟨0,num l (at1 l a)+n⟩):=rfl
  by_cases ha:at1 l a < l.length
  case neg=>rw [hd,if_pos ha] at he'; simp at he'
  rw [hd,if_neg (by simpa using ha)] at he' ⊢
  by_cases hs:-1073741824<=num l (at1 l a)+n/\num l (at1 l a)+n<=1073741824
  case neg=>rw [if_pos hs] at he'; simp at he'
  rw [if_neg (by simpa using hs)]
  simp only [zaQ]
  refine ⟨?_,fun i hi=>?_⟩
  ·rw [hset _ _ (by omega)]
   simp only [lastAt,List.foldl]
   rw [if_neg (by omega)]; exact hll
  ·rw [hset _ _ (by omega),hset _ _ (by omega),zdH _ _ _ _ ha,zfD _ _ _ _ ha]
   simp only [lastAt,List.foldl]
   rw [if_neg (by omega)]
   refine ⟨(hat i hi).1,?_⟩
   by_cases e:at1 l a=i
   ·rw [if_pos (by omega),if_pos e]
   ·rw [if_neg (by omega),if_neg e]; exact (hat i hi).2
 ·rw [if_neg (by decide),if_neg (by decide),if_neg (by decide),if_neg (by decide)]
  exact ⟨hll,hat⟩
 ·rw [if_neg (by decide),if_neg (by decide),if_neg (by decide),if_pos rfl]
  have hd:zbk l ⟨6,a,o,n⟩=if ¬ at1 l a < l.length then (l,⟨6,0⟩) else if ¬ at1 l o < l.length then (l,⟨6,0⟩)
   else (zct (zct l (at1 l a) (num l (at1 l o))) (at1 l o) (num l (at1 l a)),⟨0,num l (at1 l o)⟩):=rfl
  by_cases ha:at1 l a < l.length
  case neg=>rw [hd,if_pos ha] at he'; simp at he'
  rw [hd,if_neg (by simpa using ha)] at he' ⊢
  by_cases hb:at1 l o < l.length
  case neg=>rw [if_pos hb] at he'; simp at he'
  rw [if_neg (by simpa using hb)]
  have hb2:at1 l o < (zct l (at1 l a) (num l (at1 l o))).length:=by rw [zaQ]; exact hb
  simp only [zaQ]
  refine ⟨?_,fun i hi=>?_⟩
  ·rw [hset _ _ (by omega)]
   simp only [lastAt,List.foldl]
   rw [if_neg (by omega),if_neg (by omega)]; exact hll
  ·rw [hset _ _ (by omega),hset _ _ (by omega),zdH _ _ _ _ hb2,zdH _ _ _ _ ha,zfD _ _ _ _ hb2,zfD _ _ _ _ ha]
   simp only [lastAt,List.foldl]
   rw [if_neg (by omega),if_neg (by omega)]
   refine ⟨(hat i hi).1,?_⟩
   by_cases e:at1 l o=i
   ·rw [if_pos (by omega),if_pos e]
   ·rw [if_neg (by omega),if_neg e]
    by_cases e2:at1 l a=i
    ·rw [if_pos (by omega),if_pos e2]
    ·rw [if_neg (by omega),if_neg e2]; exact (hat i hi).2

theorem znr {xs:List Int} {c:Cl} (hx:zdk xs=0) (hc:wrongCl c=0) :
  zdk (zaB xs (zbn (zaK xs (xs.getD 0 0).toNat) c))=0 /\
  zaK (zaB xs (zbn (zaK xs (xs.getD 0 0).toNat) c)) ((zaB xs (zbn (zaK xs (xs.getD 0 0).toNat) c)).getD 0 0).toNat=(zbk (zaK xs (xs.getD 0 0).toNat) c).1:=by
 obtain ⟨hl,x0,x5,hok⟩:=(zgK xs).1 hx
 have hll:xs.getD 0 0=((zaK xs (xs.getD 0 0).toNat).length:Int):=by rw [zaU]; omega
 obtain ⟨h1,h2⟩:=zqM (c:=c) hl x0 hll (fun i hi=>by rw [zaU] at hi; rw [zcw _ _ _ hi]; exact ⟨rfl,rfl⟩) hok hc
 have e:=zoP h1 h2
 refine ⟨?_,e⟩
 have hd:=zlg hok hc
 rw [zgK,e]
 have:=hd.1.len
 exact ⟨by rw [zbZ]; exact hl,by omega,by omega,hd.1⟩

open Go Go.RowKit

structure An where
 client:Int
 token:Int
 reply:Rp

def zbH (r:Rq):Int:=if ¬ (0<=r.client/\r.client < 3/\0<=r.token/\r.token < 8) then 3 else wrongCl r.call
def zbw (a:An):Int :=
 if ¬ (0<=a.client/\a.client < 3/\0<=a.token/\a.token < 8)∨a.reply.err < 0∨12 < a.reply.err∨1073741824 < a.reply.n∨a.reply.n < -1073741824∨(0 < a.reply.err/\a.reply.n≠0) then 3 else 0

def byteOf (n:Int):UInt8:=UInt8.ofNat (n % 256).toNat
def u32 (n:Int):Nat:=(n % 4294967296).toNat
def zdB (n:Int):List UInt8:=[UInt8.ofNat (u32 n / 16777216),UInt8.ofNat (u32 n / 65536 % 256),UInt8.ofNat (u32 n / 256 % 256),UInt8.ofNat (u32 n % 256)]
def zlV (u:Nat):Int:=if u < 2147483648 then (u:Int) else (u:Int) - 4294967296
def numB (b:List UInt8):Int:=zlV ((((b.getD 0 0).toNat * 256+(b.getD 1 0).toNat) * 256+(b.getD 2 0).toNat) * 256+(b.getD 3 0).toNat)

theorem zcd {n:Int} (h0:0<=n) (h1:n<=255):((byteOf n).toNat:Int)=n:=by
 unfold byteOf
 rw [UInt8.toNat_ofNat']
 omega
theorem zrf (n:Int):u32 n < 4294967296:=by unfold u32; omega
theorem zn3 {n:Int} (h0:-2147483648<=n) (h1:n < 2147483648):zlV (u32 n)=n:=by
 unfold zlV u32
 split <;> omega
theorem zkd {n:Int} (h0:-2147483648<=n) (h1:n < 2147483648):numB (zdB n)=n:=by
 have hu:=zrf n
 unfold numB zdB
 simp only [List.getD_cons_zero,List.getD_cons_succ,UInt8.toNat_ofNat']
 have e:(((u32 n / 16777216 % 256) * 256+u32 n / 65536 % 256 % 256) * 256+u32 n / 256 % 256 % 256) * 256+u32 n % 256 % 256=u32 n:=by omega
 rw [show (2 ^ 8:Nat)=256 from rfl,e,zn3 h0 h1]
def zeroRq:Rq:=⟨0,0,⟨0,0,0,0⟩⟩
def zeroAn:An:=⟨0,0,⟨0,0⟩⟩
def zbF (r:Rq):List UInt8:=[113,byteOf r.client,byteOf r.token,byteOf r.call.kind,byteOf r.call.name,byteOf r.call.other]++zdB r.call.n
def zbX (a:An):List UInt8:=[97,byteOf a.client,byteOf a.token,byteOf a.reply.err]++zdB a.reply.n
def zpy (b:List UInt8):Rq:=⟨(b.getD 1 0).toNat,(b.getD 2 0).toNat,⟨(b.getD 3 0).toNat,(b.getD 4 0).toNat,(b.getD 5 0).toNat,numB (b.drop 6)⟩⟩
def zpg (b:List UInt8):An:=⟨(b.getD 1 0).toNat,(b.getD 2 0).toNat,⟨(b.getD 3 0).toNat,numB (b.drop 4)⟩⟩
def readRq (b:List UInt8):Rq×Int :=
 if b.length≠10∨b.getD 0 0≠113 then (zeroRq,2) else if zbH (zpy b)≠0 then (zeroRq,zbH (zpy b)) else (zpy b,0)
def readAn (b:List UInt8):An×Int :=
 if b.length≠8∨b.getD 0 0≠97 then (zeroAn,2) else if zbw (zpg b)≠0 then (zeroAn,zbw (zpg b)) else (zpg b,0)

theorem zeo {r:Rq} (h:zbH r=0):(0<=r.client/\r.client < 3/\0<=r.token/\r.token < 8)/\wrongCl r.call=0:=by
 unfold zbH at h
 split at h
 ·exact absurd h (by decide)
 ·rename_i hw
  exact ⟨by omega,h⟩
theorem zj3 {c:Cl} (h:wrongCl c=0):(0<=c.kind/\c.kind<=255)/\(0<=c.name/\c.name<=255)/\(0<=c.other/\c.other<=255)/\(-1073741824<=c.n/\c.n<=1073741824):=by
 unfold wrongCl at h
 repeat' split at h
 all_goals first | exact absurd h (by decide) | skip
 refine ⟨?_,?_,?_,?_⟩ <;> omega
theorem zgY {a:An} (h:zbw a=0):(0<=a.client/\a.client < 3/\0<=a.token/\a.token < 8)/\(0<=a.reply.err/\a.reply.err<=12)/\(-1073741824<=a.reply.n/\a.reply.n<=1073741824)/\(0 < a.reply.err->a.reply.n=0):=by
 unfold zbw at h
 split at h
 ·exact absurd h (by decide)
 ·rename_i hw
  omega
theorem zpi {r:Rq} (h:zbH r=0):zpy (zbF r)=r:=by
 obtain ⟨hw,hc⟩:=zeo h
 obtain ⟨h1,h2,h3,h4⟩:=zj3 hc
 obtain ⟨cl,tk,⟨k,a,o,n⟩⟩:=r
 simp only at *
 have e:zpy (zbF ⟨cl,tk,⟨k,a,o,n⟩⟩)=⟨((byteOf cl).toNat:Int),((byteOf tk).toNat:Int),⟨((byteOf k).toNat:Int),((byteOf a).toNat:Int),((byteOf o).toNat:Int),numB (zdB n)⟩⟩:=rfl
 rw [e,zcd (by omega) (by omega),zcd (by omega) (by omega),zcd h1.1 h1.2,zcd h2.1 h2.2,zcd h3.1 h3.2,zkd (by omega) (by omega)]
theorem zpU {a:An} (h:zbw a=0):zpg (zbX a)=a:=by
 obtain ⟨hw,h1,h2,_⟩:=zgY h
 obtain ⟨cl,tk,⟨e0,n⟩⟩:=a
 simp only at *
 have e:zpg (zbX ⟨cl,tk,⟨e0,n⟩⟩)=⟨((byteOf cl).toNat:Int),((byteOf tk).toNat:Int),⟨((byteOf e0).toNat:Int),numB (zdB n)⟩⟩:=rfl
 rw [e,zcd (by omega) (by omega),zcd (by omega) (by omega),zcd (by omega) (by omega),zkd (by omega) (by omega)]
theorem zju {r:Rq} (h:zbH r=0):readRq (zbF r)=(r,0):=by
 have hl:(zbF r).length=10:=rfl
 have h0:(zbF r).getD 0 0=113:=rfl
 unfold readRq
 rw [if_neg (by rw [hl,h0]; simp),zpi h,if_neg (by simp [h])]
theorem zi9 {a:An} (h:zbw a=0):readAn (zbX a)=(a,0):=by
 have hl:(zbX a).length=8:=rfl
 have h0:(zbX a).getD 0 0=97:=rfl
 unfold readAn
 rw [if_neg (by rw [hl,h0]; simp),zpU h,if_neg (by simp [h])]
open Go Go.RowKit

structure St where
 cells:List Int
 undo:List (Int×Int)
 answers:List An
 past:List Rq

theorem St.ext' {s t:St} (h1:s.cells=t.cells) (h2:s.undo=t.undo) (h3:s.answers=t.answers) (h4:s.past=t.past):s=t:=by
 cases s; cases t; simp at *; exact ⟨h1,h2,h3,h4⟩

def newSt:St:=⟨List.replicate 11 0,[],[],[]⟩
def zau (s:St) (p:Int×Int):St :=
 if 0<=p.1/\p.1 < (s.cells.length:Int) then { s with cells:=zdx s.cells p,undo:=(p.1,s.cells.getD p.1.toNat 0)::s.undo } else s
def zbz (s:St):St:={ s with cells:=zaB s.cells s.undo,undo:=[] }
def zb9:List An->An->List An
 | [],a=>[a]
 | x::l,a=>if x.client=a.client then a::l else x::zb9 l a
def zbW (s:St) (r:Rq) (says:Rp):St:=⟨s.cells,[],zb9 s.answers ⟨r.client,r.token,says⟩,s.past++[r]⟩
def lastAn:List An->Int->An×Bool
 | [],_=>(zeroAn,false)
 | x::l,c=>if x.client=c then (x,true) else lastAn l c
theorem zl3 (l:List An) (a:An):lastAn (zb9 l a) a.client=(a,true):=by
 induction l with
 | nil=>simp [zb9,lastAn]
 | cons x l ih =>
  unfold zb9
  by_cases h:x.client=a.client
  ·rw [if_pos h]; simp [lastAn]
  ·rw [if_neg h,lastAn,if_neg h]; exact ih
theorem zmM (l:List An) (a:An) (c:Int) (hc:c≠a.client):lastAn (zb9 l a) c=lastAn l c:=by
 induction l with
 | nil=>simp [zb9,lastAn]; intro h; exact absurd h.symm hc
 | cons x l ih =>
  unfold zb9
  by_cases h:x.client=a.client
  ·rw [if_pos h,lastAn,lastAn,if_neg (fun e=>hc e.symm),if_neg (fun e=>hc (e.symm.trans h))]
  ·rw [if_neg h,lastAn,lastAn,ih]
theorem zhQ (l:List An) (a:An):(zb9 l a).length<=l.length+1:=by
 induction l with
 | nil=>simp [zb9]
 | cons x l ih =>
  unfold zb9
  split
  ·simp
  ·simp; omega

theorem zn7 (s:St) (r:Rq) (says:Rp):lastAn (zbW s r says).answers r.client=(⟨r.client,r.token,says⟩,true):=zl3 s.answers ⟨r.client,r.token,says⟩

theorem zoB (xs:List Int) (p:Int×Int) (h0:0<=p.1) (h1:p.1 < (xs.length:Int)):zdx (zdx xs p) (p.1,xs.getD p.1.toNat 0)=xs:=by
 obtain ⟨i,hi⟩:∃ i:Nat,p.1=(i:Int):=⟨p.1.toNat,by omega⟩
 have hl:i < xs.length:=by omega
 have hlen:(zdx xs p).length=xs.length:=by have:=zbZ xs [p]; simpa [zaB] using this
 have hlen2:(zdx (zdx xs p) (p.1,xs.getD p.1.toNat 0)).length=xs.length:=by have:=zbZ (zdx xs p) [(p.1,xs.getD p.1.toNat 0)]; rw [hlen] at this; simpa [zaB] using this
 refine List.ext_getElem? fun j=>?_
 by_cases hj:j < xs.length
 ·have a1:=zlF (zdx xs p) (p.1,xs.getD p.1.toNat 0) j (by omega)
  have a2:=zlF xs p j hj
  rw [a2] at a1
  rw [List.getD_eq_getElem?_getD,List.getElem?_eq_getElem (by omega)] at a1
  rw [List.getElem?_eq_getElem (by omega),List.getElem?_eq_getElem hj]
  simp only [Option.getD_some] at a1
  rw [a1]
  congr 1
  by_cases hp:p.1=(j:Int)
  ·rw [if_pos hp,hp]; simp [hj]
  ·rw [if_neg hp,if_neg hp]; simp [hj]
 ·rw [List.getElem?_eq_none (by omega),List.getElem?_eq_none (by omega)]

theorem znl (s:St) (p:Int×Int):zbz (zau s p)=zbz s:=by
 unfold zau
 by_cases h:0<=p.1/\p.1 < (s.cells.length:Int)
 ·rw [if_pos h]
  unfold zbz
  refine St.ext' ?_ rfl rfl rfl
  show zaB (zdx s.cells p) ((p.1,s.cells.getD p.1.toNat 0)::s.undo)=zaB s.cells s.undo
  have:zaB (zdx s.cells p) ((p.1,s.cells.getD p.1.toNat 0)::s.undo)=zaB (zdx (zdx s.cells p) (p.1,s.cells.getD p.1.toNat 0)) s.undo:=rfl
  rw [this,zoB _ _ h.1 h.2]
 ·rw [if_neg h]
theorem zle (s:St) (p:Int×Int):(zau s p).cells.length=s.cells.length:=by
 unfold zau
 split
 ·show (zdx s.cells p).length=_
  have:=zbZ s.cells [p]; simpa [zaB] using this
 ·rfl
open Go Go.RowKit

structure Sv where
 gen:Int
 box:List (List UInt8)
 busy:Bool
 now:Rq
 plan:List (Int×Int)
 says:Rp

structure Cn where
 calls:List Cl
 at_:Int
 sent:Bool
 gen:Int
 box:List (List UInt8)
 got:List Rp

structure Mc where
 store:St
 server:Sv
 up:Bool
 pause:Int
 falls:Int
 clients:List Cn

def zbQ (gen:Int) (box:List (List UInt8)):Sv:=⟨gen,box,false,zeroRq,[],⟨0,0⟩⟩

def zbY (v:Sv) (b:List UInt8):Sv×Int:=if 3<=v.box.length then (v,9) else ({ v with box:=v.box++[b] },0)

def zbI (xs:List Int):List (Int×Int):=zaK xs (xs.getD 0 0).toNat

def zaC (s:St) (v:Sv):St×Sv×List UInt8×Int :=
 if v.busy then
  match v.plan with
  | p::l=>(zau s p,{ v with plan:=l },[],0)
  | []=>(zbW s v.now v.says,zbQ v.gen v.box,zbX ⟨v.now.client,v.now.token,v.says⟩,0)
 else
  match v.box with
  | []=>(s,v,[],12)
  | b::l =>
   let v':Sv:={ v with box:=l }
   if (readRq b).2≠0 then (s,v',[],0)
   else
    let r:=(readRq b).1
    let a:=lastAn s.answers r.client
    if a.2/\r.token<=a.1.token then
     if a.1.token=r.token then (s,v',zbX a.1,0) else (s,v',[],0)
    else (s,{ v' with busy:=true,now:=r,plan:=zbn (zbI s.cells) r.call,says:=(zbk (zbI s.cells) r.call).2 },[],0)

def pauseOf (falls:Int):Int:=if falls < 1 then 1 else if 3 < falls then 3 else falls

def zd2 (m:Mc):Mc×Int :=
 if ¬ m.up then (m,11) else if 6<=m.falls then (m,5)
 else ({ m with falls:=m.falls+1,up:=false,pause:=pauseOf (m.falls+1),server:=zbQ m.server.gen [] },0)

def zbL (m:Mc):Mc :=
 if m.up then m else if 1 < m.pause then { m with pause:=m.pause - 1 }
 else { m with up:=true,pause:=0,store:=zbz m.store,server:=zbQ (m.server.gen+1) [] }

def zcx (c:Cn) (me gen:Int) (up:Bool):Cn×List UInt8×Int :=
 match c.box with
 | b::l =>
  let c':Cn:={ c with box:=l }
  let a:=readAn b
  if a.2=0/\a.1.client=me/\a.1.token=c.at_/\c.sent=true then ({ c' with got:=c.got++[a.1.reply],at_:=c.at_+1,sent:=false },[],0)
  else (c',[],0)
 | [] =>
  if (c.calls.length:Int)<=c.at_ then (c,[],11)
  else if ¬ up then (c,[],10)
  else if c.sent/\c.gen=gen then (c,[],12)
  else ({ c with sent:=true,gen:=gen },zbF ⟨me,c.at_,c.calls.getD c.at_.toNat ⟨0,0,0,0⟩⟩,0)

def zcf (c:Cn) (b:List UInt8):Cn:=if c.box.length < 3 then { c with box:=c.box++[b] } else c

def zbS (calls:List Cl):Cn:=⟨calls,0,false,0,[],[]⟩
def za4 (l:List (List Cl)):Mc:=⟨newSt,zbQ 0 [],true,0,0,l.map zbS⟩
def za9 (l:List (List Cl)):Prop:=l.length<=3/\∀ c ∈ l,c.length<=8/\∀ x ∈ c,wrongCl x=0

def doM (m:Mc) (kind n:Int):Mc×Int :=
 if kind=1 then
  if n < 0∨(m.clients.length:Int)<=n then (m,6)
  else
   let c:=zcx (m.clients.getD n.toNat (zbS [])) n m.server.gen m.up
   if c.2.2≠0 then (m,c.2.2)
   else if c.2.1≠[] then
    let v:=zbY m.server c.2.1
    if v.2≠0 then (m,v.2) else ({ m with server:=v.1,clients:=m.clients.set n.toNat c.1 },0)
   else ({ m with clients:=m.clients.set n.toNat c.1 },0)
 else if kind=2 then
  if ¬ m.up then (m,10)
  else
   let x:=zaC m.store m.server
   if x.2.2.2≠0 then (m,x.2.2.2)
   else
    let m':Mc:={ m with store:=x.1,server:=x.2.1 }
    if x.2.2.1≠[] then
     let k:=(x.2.2.1.getD 1 0).toNat
     if k < m.clients.length then ({ m' with clients:=m.clients.set k (zcf (m.clients.getD k (zbS [])) x.2.2.1) },0) else (m',0)
    else (m',0)
 else if kind=3 then zd2 m
 else if kind=4 then (zbL m,0)
 else (m,1)

def zcr (m:Mc) (steps:List (Int×Int)):Mc:=steps.foldl (fun m s=>(doM m s.1 s.2).1) m

def roundM (m:Mc):Mc :=
 let m1:=zbL m
 let m2:=(List.range m1.clients.length).foldl (fun m (n:Nat)=>(doM m 1 (n:Int)).1) m1
 (doM m2 2 0).1

open Go Go.RowKit

def zdy:El Cl:=fun _ c x=>c=[I x.kind,I x.name,I x.other,I x.n]
def zhG:El An:=fun _ c x=>c=[I x.client,I x.token,I x.reply.err,I x.reply.n]
def zhz:El Rq:=fun _ c x=>c=[I x.client,I x.token,I x.call.kind,I x.call.name,I x.call.other,I x.call.n]
def zdU:El Rp:=fun _ c x=>c=[I x.err,I x.n]
def zck:El (List UInt8):=fun w c x=>∃ v,c=[v]/\zba w v x
def zgi:El (List Cl):=fun w c x=>∃ v,c=[v]/\zat 4 zdy w v x

theorem zd9:zga zdy:=fun _ _ _ _ _ h=>h
theorem zgg:zga zhG:=fun _ _ _ _ _ h=>h
theorem zjr:zga zhz:=fun _ _ _ _ _ h=>h
theorem zgf:zga zdU:=fun _ _ _ _ _ h=>h
theorem zed:zga zck:=fun _ _ _ _ he ⟨v,e,h⟩=>⟨v,e,h.ext he⟩
theorem zbB {l:List Value} (h:l.all (fun u=>u.oneCell')=true):∀ u ∈ l,u.oneCell'=true:=fun u hu=>List.all_eq_true.1 h u hu
theorem znB {w:World} {size n:Nat} {v:Value} {cs:List Value} (h:Row w size v n cs):v.oneCell'=true:=by
 obtain ⟨_,ao,cap,rfl,_⟩:=h
 rfl
theorem zh4 {X:Type} {R:El X} {w:World} {size:Nat} {v:Value} {xs:List X} (h:zat size R w v xs):v.oneCell'=true:=by
 obtain ⟨_,_,h⟩:=h
 exact znB h
theorem zrc:zro zck:=fun _ _ _ ⟨v,e,h⟩ u hu=>by
 rw [e] at hu
 simp at hu
 rw [hu]
 exact znB h
def zcA:El Cn:=fun w c x=>∃ calls box got,c=[calls,I x.at_,.bool x.sent,I x.gen,box,got]/\zat 4 zdy w calls x.calls/\zat 1 zck w box x.box/\zat 2 zdU w got x.got
theorem zrG:zga zcA:=fun _ _ _ _ he ⟨a,b,d,e,h1,h2,h3⟩=>⟨a,b,d,e,h1.ext zd9 he,h2.ext zed he,h3.ext zgf he⟩
theorem zq7:zro zcA:=fun _ _ _ ⟨a,b,d,e,h1,h2,h3⟩ u hu=>by
 rw [e] at hu
 simp at hu
 rcases hu with rfl | rfl | rfl | rfl | rfl | rfl
 ·exact zh4 h1
 ·rfl
 ·rfl
 ·rfl
 ·exact zh4 h2
 ·exact zh4 h3

def zcn:El St:=fun w c x=>∃ a b d e,c=[a,b,d,e]/\zbE w a x.cells/\zaw w b x.undo/\zat 4 zhG w d x.answers/\zat 6 zhz w e x.past
theorem zhj:zga zcn:=fun _ _ _ _ he ⟨a,b,d,e,h,h1,h2,h3,h4⟩=>⟨a,b,d,e,h,h1.ext he,h2.ext he,h3.ext zgg he,h4.ext zjr he⟩

def zhq:El Sv:=fun w c x=>∃ box plan,c=[I x.gen,box,.bool x.busy,I x.now.client,I x.now.token,I x.now.call.kind,I x.now.call.name,I x.now.call.other,I x.now.call.n,plan,I x.says.err,I x.says.n] /\
 zat 1 zck w box x.box/\zaw w plan x.plan
def zdc:El Mc:=fun w c x=>∃ s v cl,c=s++v++[.bool x.up,I x.pause,I x.falls,cl]/\zcn w s x.store/\zhq w v x.server/\zat 6 zcA w cl x.clients
theorem zc6 {X:Type} {f:X->List Value} {size:Nat} {w:World} {v:Value} {xs:List X} (hf:∀ x,(f x).length=size):zat size (fun _ c x=>c=f x) w v xs↔Row w size v xs.length (xs.flatMap f):=by
 constructor
 ·rintro ⟨css,he,hr⟩
  rw [ziC (f:=f) he.1 (fun i c x hc hx=>(he.2 i c x hc hx).2)] at hr
  exact hr
 ·intro h
  refine ⟨xs.map f,⟨by simp,fun i c x hc hx=>?_⟩,?_⟩
  ·rw [List.getElem?_map,hx] at hc
   simp at hc
   subst hc
   exact ⟨hf x,rfl⟩
  ·rw [<- List.flatMap_def]
   exact h
theorem zeK {w:World} {v:Value} {l:List Rq}:zat 6 zhz w v l↔zmZ w v l:=zc6 (f:=fun (r:Rq)=>[I r.client,I r.token,I r.call.kind,I r.call.name,I r.call.other,I r.call.n]) (fun _=>rfl)

open Go Go.RowKit Go.ChangeShapes Go.WideShapes

section
variable {P:Program} {H:Type} {enc:TypeId×Value->H} {W:World} {X:Type}

end
open Go Go.RowKit

def zp1 (φ:World->Prop):Prop:=∀ w w',(∀ k,k < w.heap.size->w'.heap[k]?=w.heap[k]?)->φ w->φ w'
def zpt {X:Type} (R:El X):Prop:=∀ w w' c x,(∀ k,k < w.heap.size->w'.heap[k]?=w.heap[k]?)->R w c x->R w' c x

def Rd (A:Nat->Prop) (φ:World->Prop) (w:World):Prop:=∀ w':World,(∀ k,A k->k < w.heap.size->w'.heap[k]?=w.heap[k]?)->φ w'

theorem Rd.o {A:Nat->Prop} {φ:World->Prop} {w:World} (h:Rd A φ w):φ w:=h w (fun _ _ _=>rfl)
theorem Rd.ext {A:Nat->Prop} {φ:World->Prop} {w w':World} (h:Rd A φ w) (he:Ext w w'):Rd A φ w':=fun w2 h2=>h w2 (fun k ha hk=>by
 rw [h2 k ha (Nat.lt_of_lt_of_le hk he.size)]
 exact he.block k hk)
theorem Rd.mono (A:Nat->Prop) (φ:World->Prop):zcy (Rd A φ):=fun _ _ he h=>h.ext he
theorem Rd.grown {A:Nat->Prop} {φ:World->Prop} {w w':World} {row:Option Nat} (h:Rd A φ w) (hg:w.grownBy w' row) (hr:∀ b,row=some b->¬ A b):Rd A φ w':=fun w2 h2=>h w2 (fun k ha hk=>by
 rw [h2 k ha (Nat.lt_of_lt_of_le hk hg.size)]
 exact hg.block k hk (fun e=>hr k e.symm ha))
theorem Rd.set {A:Nat->Prop} {φ:World->Prop} {w:World} (h:Rd A φ w) {b:Nat} (hb:¬ A b) (i:Nat) (x:Value):Rd A φ (w.setCell ⟨b,i,none⟩ x):=fun w2 h2=>h w2 (fun k ha hk=>by
 rw [h2 k ha (by simpa using hk)]
 exact Below.heap_setCell w _ x k (fun e=>hb (by have e:k=b:=e; rw [<- e]; exact ha)))
theorem Rd.imp {A:Nat->Prop} {φ ψ:World->Prop} {w:World} (h:Rd A φ w) (hi:∀ w',φ w'->ψ w'):Rd A ψ w:=fun w2 h2=>hi w2 (h w2 h2)
theorem Rd.and {A:Nat->Prop} {φ ψ:World->Prop} {w:World} (h:Rd A φ w) (k:Rd A ψ w):Rd A (fun w=>φ w/\ψ w) w:=fun w2 h2=>⟨h w2 h2,k w2 h2⟩
theorem Rd.left {A:Nat->Prop} {φ ψ:World->Prop} {w:World} (h:Rd A (fun w=>φ w/\ψ w) w):Rd A φ w:=h.imp fun _ h=>h.1
theorem Rd.right {A:Nat->Prop} {φ ψ:World->Prop} {w:World} (h:Rd A (fun w=>φ w/\ψ w) w):Rd A ψ w:=h.imp fun _ h=>h.2
theorem Rd.widen {A B:Nat->Prop} {φ:World->Prop} {w:World} (h:Rd A φ w) (hi:∀ k,k < w.heap.size->A k->B k):Rd B φ w:=fun w2 h2=>h w2 (fun k ha hk=>h2 k (hi k hk ha) hk)
theorem Rd.of {φ:World->Prop} (hp:zp1 φ) {w:World} (h:φ w):Rd (fun k=>k < w.heap.size) φ w:=fun w2 h2=>hp w w2 (fun k hk=>h2 k hk hk) h
theorem Rd.all {A:Nat->Prop} {φ:World->Prop} {w:World} (h:∀ w,φ w):Rd A φ w:=fun w2 _=>h w2

theorem Row.heap {w w':World} {size:Nat} {v:Value} {n:Nat} {cs:List Value} (h:Row w size v n cs) (hk:∀ (j:Nat) (u:Value) (b off:Nat),cs[j]?=some u->(∃ m cap,v=.slice (some ⟨b,off,none⟩) m cap)->w'.heap[b]?=w.heap[b]?):Row w' size v n cs:=by
 obtain ⟨h1,ao,cap,h2,h3,h4,h0,h5⟩:=h
 refine ⟨h1,ao,cap,h2,h3,h4,h0,fun j u hj=>?_⟩
 obtain ⟨b,off,e,hc⟩:=h5 j u hj
 refine ⟨b,off,e,?_⟩
 have:=hk j u b off hj ⟨_,_,by rw [h2,e]⟩
 simp only [World.cell?,this] at hc ⊢
 exact hc
theorem zpI (size:Nat) (v:Value) (n:Nat) (cs:List Value):zp1 (fun w=>Row w size v n cs):=fun w w' hk h=>by
 obtain ⟨h1,ao,cap,h2,h3,h4,h0,h5⟩:=h
 refine ⟨h1,ao,cap,h2,h3,h4,h0,fun j u hj=>?_⟩
 obtain ⟨b,off,e,hc⟩:=h5 j u hj
 refine ⟨b,off,e,?_⟩
 have hb:b < w.heap.size:=by
  by_cases hb:b < w.heap.size
  ·exact hb
  ·simp [World.cell?,Array.getElem?_eq_none (Nat.le_of_not_lt hb)] at hc
 simp only [World.cell?,hk b hb] at hc ⊢
 exact hc
theorem zeS {X:Type} {size:Nat} {R:El X} (hR:zpt R) (v:Value) (xs:List X):zp1 (fun w=>zat size R w v xs):=fun _ _ hk ⟨css,he,hr⟩ =>
 ⟨css,⟨he.1,fun i c x hc hx=>⟨(he.2 i c x hc hx).1,hR _ _ _ _ hk (he.2 i c x hc hx).2⟩⟩,zpI _ _ _ _ _ _ hk hr⟩

theorem zpF:zpt zdy:=fun _ _ _ _ _ h=>h
theorem zk6:zpt zgi:=fun _ _ _ _ hk ⟨v,e,h⟩=>⟨v,e,zeS zpF _ _ _ _ hk h⟩
theorem zdL {base e size n:Nat} {v:Value} {cs:List Value} {w:World} (h:w.ownsRow base e size v n cs):Rd (fun k=>base<=k) (fun w=>Row w size v n cs) w:=fun w2 h2=>by
 refine Row.heap (Row.of_owns h) (fun j u b off hj ⟨m,cap,e⟩=>?_)
 rcases h.2 with ⟨rfl,_⟩ | ⟨g,cap',cur,rfl,hb,hg,_⟩
 ·cases e
 ·simp at e
  obtain ⟨⟨rfl,_⟩,_⟩:=e
  exact h2 g hb (Array.getElem?_eq_some_iff.1 hg).1
theorem zdY {base e n:Nat} {v:Value} {xs:List Int} {w:World} (h:w.ownsRow base e 1 v n (xs.map I)):Rd (fun k=>base<=k) (fun w=>zbE w v xs) w:=by
 have hl:xs.length=n:=by simpa using h.1
 subst hl
 exact zdL h
theorem zec {base e n:Nat} {v:Value} {l:List (Int×Int)} {w:World} (h:w.ownsRow base e 2 v n (zaz l)):Rd (fun k=>base<=k) (fun w=>zaw w v l) w:=by
 have hl:l.length=n:=by have:=h.1; rw [zcp] at this; omega
 subst hl
 exact zdL h

def zaJ (P:Program) (f:FuncId) (args:Array Value) (w:World) (A:Nat->Prop) (T:Value->World->Prop):Prop :=
 Calls P f args w fun e w'=>∃ r,e=.returned r/\Ext w w'/\Rd (fun k=>A k∨w.heap.size<=k) (T r) w'

theorem zaJ.to {P:Program} {f:FuncId} {args:Array Value} {w:World} {A:Nat->Prop} {T:Value->World->Prop} {Q:Ending->World->Prop} (h:zaJ P f args w A T) (k:∀ r w',Ext w w'->Rd (fun k=>A k∨w.heap.size<=k) (T r) w'->Q (.returned r) w'):Calls P f args w Q :=
 Calls.mono h fun e w' ⟨r,he,hx,ht⟩=>by rw [he]; exact k r w' hx ht
theorem zaJ.gives {P:Program} {f:FuncId} {args:Array Value} {w:World} {A:Nat->Prop} {T:Value->World->Prop} (h:zaJ P f args w A T):zaV P f args w T :=
 Calls.mono h fun _ _ ⟨r,he,hx,ht⟩=>⟨r,he,hx,ht.o⟩

def Agg {X:Type} (R:El X) (x:X) (v:Value) (w:World):Prop:=∃ cs:List Value,v=.agg cs.toArray/\R w cs x
theorem zbU {X:Type} {R:El X} {x:X} {v:Value} {A:Nat->Prop} {w:World} (h:Rd A (Agg R x v) w):∃ cs:List Value,v=.agg cs.toArray/\Rd A (fun w=>R w cs x) w:=by
 obtain ⟨cs,e,_⟩:=h.o
 refine ⟨cs,e,fun w2 h2=>?_⟩
 obtain ⟨cs2,e2,h3⟩:=h w2 h2
 rw [e] at e2
 have:cs=cs2:=by simpa using e2
 rw [this]
 exact h3
theorem zb1 {X:Type} {R:El X} {x:X} {cs:List Value} {A:Nat->Prop} {w:World} (h:Rd A (fun w=>R w cs x) w):Rd A (Agg R x (.agg cs.toArray)) w:=h.imp fun _ h=>⟨cs,rfl,h⟩
theorem zc7 {w:World} {a b d e:Value} {s:St}:zcn w [a,b,d,e] s↔zbE w a s.cells/\zaw w b s.undo/\zat 4 zhG w d s.answers/\zat 6 zhz w e s.past:=by
 constructor
 ·rintro ⟨a',b',d',e',h,h1,h2,h3,h4⟩
  simp at h
  obtain ⟨rfl,rfl,rfl,rfl⟩:=h
  exact ⟨h1,h2,h3,h4⟩
 ·rintro ⟨h1,h2,h3,h4⟩
  exact ⟨a,b,d,e,rfl,h1,h2,h3,h4⟩
theorem zd7 {A:Nat->Prop} {w:World} {cs:List Value} {s:St} (h:Rd A (fun w=>zcn w cs s) w):∃ a b d e,cs=[a,b,d,e]/\Rd A (fun w=>zbE w a s.cells) w/\Rd A (fun w=>zaw w b s.undo) w/\Rd A (fun w=>zat 4 zhG w d s.answers) w/\Rd A (fun w=>zat 6 zhz w e s.past) w:=by
 obtain ⟨a,b,d,e,rfl,_⟩:=h.o
 have h2:=h.imp fun _ h=>zc7.1 h
 exact ⟨a,b,d,e,rfl,h2.left,h2.right.left,h2.right.right.left,h2.right.right.right⟩
theorem zdp {A:Nat->Prop} {w:World} {a b d e:Value} {s:St} (h1:Rd A (fun w=>zbE w a s.cells) w) (h2:Rd A (fun w=>zaw w b s.undo) w) (h3:Rd A (fun w=>zat 4 zhG w d s.answers) w) (h4:Rd A (fun w=>zat 6 zhz w e s.past) w):Rd A (fun w=>zcn w [a,b,d,e] s) w :=
 (h1.and (h2.and (h3.and h4))).imp fun _ h=>zc7.2 h

theorem zds (A:Nat->Prop) (s n:Nat):∃ B:Nat->Prop,(∀ k,k < s->A k->B k)/\(∀ k,s+n<=k->B k)/\(∀ k,s<=k->k < s+n->¬ B k)/\∀ k,B k->A k∨s<=k :=
 ⟨fun k=>(A k/\k < s)∨s+n<=k,fun k h1 h2=>.inl ⟨h2,h1⟩,fun _ h=>.inr h,fun k h1 h2 h=>by rcases h with ⟨_,h⟩ | h <;> omega,fun k h=>by rcases h with ⟨h,_⟩ | h; exact .inl h; exact .inr (by omega)⟩
theorem zao {w:World} {size n:Nat} {v:Value} {cs:List Value} (h:Row w size v n cs):∃ ao cap,v=.slice ao n cap:=by
 obtain ⟨_,ao,cap,e,_⟩:=h
 exact ⟨ao,cap,e⟩
theorem zag {X:Type} {R:El X} {w:World} {size:Nat} {v:Value} {xs:List X} (h:zat size R w v xs):∃ ao cap,v=.slice ao xs.length cap:=by
 obtain ⟨_,_,h⟩:=h
 exact zao h

open Go Go.RowKit Go.ChangeShapes Go.WideShapes

section
variable {P:Program} {H:Type} {enc:TypeId×Value->H} {W:World} {X:Type}

end
open Go Go.RowKit Go.ChangeShapes Go.WideShapes

section
variable {P:Program} {H:Type} {enc:TypeId×Value->H} {W:World}

end
open Go Go.RowKit

def zdm (base e size n:Nat) (cs:List Value) (v:Value) (w:World):Prop:=∃ g,v=.slice (some ⟨g,0,none⟩) n n/\w.ownsRow base e size v n cs
theorem zgh (base e size n:Nat) (cs:List Value):∀ v,zcy (zdm base e size n cs v):=fun _ _ _ he ⟨g,e,h⟩=>⟨g,e,zak h he⟩
theorem zfA {w:World} {base e size:Nat} (cs:Array Value) (n:Nat) (hb:base<=w.heap.size) (hm:n<=maxLen) (hc:cs.size=n * size):zdm base e size n cs.toList (.slice (some ⟨w.heap.size,0,none⟩) n n) (w.alloc (.cells cs e)) :=
 ⟨_,rfl,World.ownsRow_lit (base:=base) (e:=e) (size:=size) w cs n hb hm hc⟩

theorem zb6 {P:Program} (w:World) (base:Nat) (t ty e:TypeId) (i:TypeInfo) (z:Value) (size bytes:Nat) (ht:P.underlying t=some (.slice e)) (hi:P.info? e=some i) (hz:i.zero=some z)
  (hsize:i.size=size) (hby:i.bytes=bytes) (hzs:z.cells.size=size) (hsz:0 < size)
  (v:Value) (n:Nat) (xs:List Value) (hown:zdm base e size n xs v w) (u:Value) (m:Nat) (news:List Value) (hu:Row w size u m news) (h1:∀ u ∈ news,u.oneCell'=true)
  (hbytes:(n+m) * bytes<=140737488355328) (hpos:0 < bytes) (hbase:base<=w.heap.size) :
  ∃ v' w',(Builtin.append_ #[t,t] ty #[v,u]).run P w=.ok v' w'/\w'.ownsRow base e size v' (n+m) (xs++news)/\Ext w w':=by
 obtain ⟨g,rfl,hown⟩:=hown
 have h63:n+m<=maxLen:=by
  have:n+m<=(n+m) * bytes:=Nat.le_mul_of_pos_right _ hpos
  unfold maxLen
  omega
 obtain ⟨hl,ao,cap,rfl,hc,hm,h0,hcell⟩:=hu
 by_cases hm0:m=0
 ·subst hm0
  have hn:news=[]:=List.eq_nil_of_length_eq_zero (by simpa using hl)
  subst hn
  cases ao with
  | none =>
   have hcap:=h0 rfl
   subst hcap
   exact ⟨_,w,run_append_owned_none w base t ty e i size ht hi _ n xs hown,by simpa using hown,Ext.refl _⟩
  | some ad =>
   rcases hown.2 with ⟨e',_⟩ | ⟨g',cap',cur,e',hbg,hg,hnc,hcm,hcs,htake⟩
   ·cases e'
   ·simp at e'
    obtain ⟨rfl,rfl⟩:=e'
    subst hsize
    have hr:=run_append_room (P:=P) w t ty e i ht hi g n n cur hg ad 0 cap [] (by simp) (fun j u hj=>by simp at hj) (by simp) (by omega) (by simp; rw [hcs]; exact Nat.le_refl _)
    refine ⟨_,_,hr,?_,?_⟩
    ·have hsame:(w.setRow g (cur.toList.take (n * i.size)++[]++cur.toList.drop (n * i.size+([]:List Value).length)).toArray).heap[g]?=some (.cells cur e):=by
      rw [setRow_heap w g cur _ e _ hg]
      simp
     refine ⟨by simp [hown.1],.inr ⟨g,n,cur,rfl,hbg,hsame,by omega,hcm,hcs,by simpa using htake⟩⟩
    ·refine ⟨rfl,rfl,rfl,by simp [World.setRow],fun k hk=>?_⟩
     by_cases hkg:k=g
     ·subst hkg
      rw [setRow_heap w k cur _ e _ hg,hg]
      simp
     ·exact setRow_other w g k _ hkg
 ·cases ao with
  | none=>have:=h0 rfl; omega
  | some ad =>
   obtain ⟨v',w',hrun,r1,r2⟩:=run_append_arg_grows (P:=P) w t ty e i z size bytes ht hi hz hsize hby hzs hsz ⟨g,0,none⟩ n n xs hown.1 (hown.cells (g:=g) rfl) ad m cap news hl (fun j u hj=>by
    obtain ⟨b,off,e',hc'⟩:=hcell j u hj
    simp only [Option.some.injEq] at e'
    subst e'
    rw [add_plain]; exact hc') (by omega) h63 hbytes
   refine ⟨v',w',hrun,?_,⟨r2.os,r2.tape,r2.output,r2.size,fun k hk=>r2.block k hk (by simp)⟩⟩
   obtain ⟨q1,q2⟩:=r1
   refine ⟨q1,?_⟩
   rcases q2 with h | ⟨g',cap',cur,rfl,hb,hr⟩
   ·exact .inl h
   ·exact .inr ⟨g',cap',cur,rfl,Nat.le_trans hbase hb,hr⟩

theorem zc3 {P:Program} {o:Oper} {a:Act} {w w':World} {T:Value->World->Prop} {s x:Operand} {t:TypeId} {v u v':Value}
  (ho:o.op=.call { callee:=.builtin .append,args:=#[s,x],argTypes:=#[t,t] }) (hs:a.eval s=v) (hx:a.eval x=u) (hrun:(Builtin.append_ #[t,t] o.type #[v,u]).run P w=.ok v' w') (he:Ext w w') (hT:T v' w'):zaT P o a w T:=by
 have:(execOp a.eval o).run P w=.ok (.value v') w':=by simp [execOp,ho,resolve,invoke,builtin,hs,hx,hrun,Result.andThen]
 unfold zaT
 rw [this]
 exact ⟨he,hT⟩

theorem zdD {P:Program} {o:Oper} {a:Act} {w w':World} {s x:Operand} {t:TypeId} {v u v':Value}
  (ho:o.op=.call { callee:=.builtin .append,args:=#[s,x],argTypes:=#[t,t] }) (hs:a.eval s=v) (hx:a.eval x=u) (hrun:(Builtin.append_ #[t,t] o.type #[v,u]).run P w=.ok v' w'):(execOp a.eval o).run P w=.ok (.value v') w':=by
 simp [execOp,ho,resolve,invoke,builtin,hs,hx,hrun,Result.andThen]

end Go.Mk

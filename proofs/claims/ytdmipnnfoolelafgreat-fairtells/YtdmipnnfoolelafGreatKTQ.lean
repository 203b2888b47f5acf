/- Texts of the proof, merged: D5e N6a. -/
import Derived.Test.YtdmipnnfoolelafGreatKTP
import Derived.Test.YtdmipnnfoolelafGreatKTA
import Derived.Test.YtdmipnnfoolelafGreatKTM
import Derived.Test.YtdmipnnfoolelafGreatKTD
set_option maxRecDepth 100000

namespace Go.Proofs.YtdmipnnfoolelafGreat
open Go.RowKit Go.Mk

theorem zrD {l:List (Int×Int)} {c:Cl} (h:(zbw l c).2.err=0):zbq l c=zcZ l c:=by
 unfold zbq
 rw [if_neg (by simp [h])]

theorem zkh (v:Value) (xs:List Int) (k a o n:Int) (w:World) (hv:zby w v xs) (hx:zfx xs) (hc:wrongCl ⟨k,a,o,n⟩=0) :
  Calls Tryz.prog 66 #[v,.agg #[I k,I a,I o,I n]] w fun e w'=>zeU w.heap.size (zaN xs (xs.getD 0 0).toNat) ⟨k,a,o,n⟩ e w'/\Ext w w':=by
 by_cases he:(zbw (zaN xs (xs.getD 0 0).toNat) ⟨k,a,o,n⟩).2.err≠0
 ·exact zo5 v xs k a o n w hv hx hc he
 have he0:(zbw (zaN xs (xs.getD 0 0).toNat) ⟨k,a,o,n⟩).2.err=0:=by simpa using he
 have hP:=zrD he0
 clear he
 generalize hL:zaN xs (xs.getD 0 0).toNat=l at *
 obtain ⟨hk,_⟩:=zeJ hc
 rcases hk with rfl | rfl | rfl | rfl | rfl | rfl
 ·rw [zkp] at he0
  by_cases ha:at1 l a < l.length
  ·have hD:doR l ⟨1,a,o,n⟩=(zcH l a n,⟨0,num l (at1 l a)⟩):=by rw [zif,if_pos ha]
   refine zpR v xs a o n w hv hx hc l hL _ _ hD ha (zb0 _ _ _) n ?_ ?_
   ·rw [zeg _ _ _ _ ha,if_pos (zeP ha)]
   ·rw [hP]; simp [zcZ,ha]
  ·by_cases h5:5<=l.length
   ·rw [if_neg ha,if_pos h5] at he0
    exact absurd he0 (by simp)
   ·have hD:doR l ⟨1,a,o,n⟩=(l++[(a,n)],⟨0,0⟩):=by rw [zif,if_neg ha,if_neg h5]
    refine zpn v xs a o n w hv hx hc l hL _ _ hD ha (by omega) (by simp) ?_
    rw [hP]; simp [zcZ,ha]
 ·rw [zjE] at he0
  by_cases ha:at1 l a < l.length
  ·have hD:doR l ⟨2,a,o,n⟩=(l,⟨0,num l (at1 l a)⟩):=by rw [zls,if_neg (by simpa using ha)]
   exact zpt v xs a o n w hv hx hc l hL _ _ hD rfl (by rw [hP]; simp [zcZ])
  ·rw [if_pos ha] at he0
   exact absurd he0 (by simp)
 ·rw [zg9] at he0
  by_cases ha:at1 l a < l.length
  ·have hD:doR l ⟨3,a,o,n⟩=(zdt l a,⟨0,num l (at1 l a)⟩):=by rw [zj1,if_neg (by simpa using ha)]
   have hlen:(zdt l a).length=l.length - 1:=zgd l a
   by_cases hm:at1 l a+1 < l.length
   ·refine znB v xs a o n w hv hx hc l hL _ _ hD hm hlen (l.getD (l.length - 1) (0,0)).1 (l.getD (l.length - 1) (0,0)).2 (by rw [zkb _ _ _ (by omega),if_pos (zeP ha)]) ?_
    rw [hP]; simp [zcZ,hm]
   ·refine zkn v xs a o n w hv hx hc l hL _ _ hD (by omega) hlen ?_
    rw [hP]; simp [zcZ,hm]
  ·rw [if_pos ha] at he0
   exact absurd he0 (by simp)
 ·rw [zh1] at he0
  by_cases ha:at1 l a < l.length
  ·rw [if_neg (by simpa using ha)] at he0
   by_cases hr:-1073741824<=num l (at1 l a)+n/\num l (at1 l a)+n<=1073741824
   ·have hD:doR l ⟨4,a,o,n⟩=(zcH l a (num l (at1 l a)+n),⟨0,num l (at1 l a)+n⟩):=by rw [zhZ,if_neg (by simpa using ha),if_neg (by simpa using hr)]
    refine zpp v xs a o n w hv hx hc l hL _ _ hD ha (zb0 _ _ _) (num l (at1 l a)+n) ?_ ?_
    ·rw [zeg _ _ _ _ ha,if_pos (zeP ha)]
    ·rw [hP]; simp [zcZ]
   ·rw [if_pos hr] at he0
    exact absurd he0 (by simp)
  ·rw [if_pos ha] at he0
   exact absurd he0 (by simp)
 ·exact zmX v xs a o n w hv hx hc l hL _ _ (zlc l a o n) rfl (by rw [hP]; simp [zcZ])
 ·rw [zgc] at he0
  by_cases ha:at1 l a < l.length
  ·rw [if_neg (by simpa using ha)] at he0
   by_cases hb:at1 l o < l.length
   ·have hD:doR l ⟨6,a,o,n⟩=(zcH (zcH l a (num l (at1 l o))) o (num l (at1 l a)),⟨0,num l (at1 l o)⟩):=by rw [zg4,if_neg (by simpa using ha),if_neg (by simpa using hb)]
    refine zn9 v xs a o n w hv hx hc l hL _ _ hD ha hb (by rw [zb0,zb0]) (num l (at1 l o)) (num l (at1 l a)) ?_ ?_ ?_
    ·rw [zeg _ _ _ _ (by rw [zb0]; exact ha),zeg _ _ _ _ ha,if_pos (zeP ha)]
     by_cases he:(l.getD (at1 l a) (0,0)).1=o
     ·rw [if_pos he]
      rw [zeP ha] at he
      rw [he]
     ·rw [if_neg he]
    ·rw [zeg _ _ _ _ (by rw [zb0]; exact hb),zeg _ _ _ _ hb]
     by_cases he:(l.getD (at1 l o) (0,0)).1=a
     ·rw [if_pos he,if_pos (zeP hb)]
     ·rw [if_neg he,if_pos (zeP hb)]
    ·rw [hP]; simp [zcZ]
   ·rw [if_pos hb] at he0
    exact absurd he0 (by simp)
  ·rw [if_pos ha] at he0
   exact absurd he0 (by simp)

open Go.RowKit Go.Mk

def zjn (s:St) (v:Sv) (b:List UInt8) (e:Int) (r:Value) (w:World):Prop:=∃ (cs ds:List Value) (bv:Value),r=.tuple #[.agg cs.toArray,.agg ds.toArray,bv,I e]/\zcn w cs s/\zhm w ds v/\zbd w bv b
theorem zoS {s:St} {v:Sv} {b:List UInt8} {e:Int} {r:Value} {A:Nat->Prop} {w:World} (h:Rd A (zjn s v b e r) w):∃ (cs ds:List Value) (bv:Value),r=.tuple #[.agg cs.toArray,.agg ds.toArray,bv,I e]/\Rd A (fun w=>zcn w cs s) w/\Rd A (fun w=>zhm w ds v) w/\Rd A (fun w=>zbd w bv b) w:=by
 obtain ⟨cs,ds,bv,e1,_⟩:=h.o
 have key:∀ w',zjn s v b e r w'->zcn w' cs s/\zhm w' ds v/\zbd w' bv b:=fun w' ⟨cs2,ds2,bv2,e2,h3⟩=>by
  rw [e1] at e2
  have:cs=cs2/\ds=ds2/\bv=bv2:=by simpa using e2
  obtain ⟨rfl,rfl,rfl⟩:=this
  exact h3
 exact ⟨cs,ds,bv,e1,h.imp fun w' hw=>(key w' hw).1,h.imp fun w' hw=>(key w' hw).2.1,h.imp fun w' hw=>(key w' hw).2.2⟩
theorem zdA {s:St} {v:Sv} {b:List UInt8} {e:Int} {cs ds:List Value} {bv:Value} {A:Nat->Prop} {w:World} (h:Rd A (fun w=>zcn w cs s) w) (h2:Rd A (fun w=>zhm w ds v) w) (h3:Rd A (fun w=>zbd w bv b) w):Rd A (zjn s v b e (.tuple #[.agg cs.toArray,.agg ds.toArray,bv,I e])) w :=
 (h.and (h2.and h3)).imp fun _ h=>⟨cs,ds,bv,rfl,h.1,h.2.1,h.2.2⟩

theorem zj6 {A:Nat->Prop} {w:World} {v:Value} {p:Int×Int} {l:List (Int×Int)} (h:Rd A (fun w=>zax w v (p::l)) w):∃ lb lo lc,v=.slice (some ⟨lb,lo,none⟩) (l.length+1) lc/\l.length+1<=lc/\lc<=maxLen/\Rd A (fun w=>w.cell? ⟨lb,lo,none⟩=some (I p.1)/\w.cell? ⟨lb,lo+1,none⟩=some (I p.2)) w/\Rd A (fun w=>zax w (.slice (some ⟨lb,lo+2,none⟩) l.length (lc - 1)) l) w:=by
 obtain ⟨hl,ao,lc,e,h3,h4,h0,h5⟩:=h.o
 obtain ⟨lb,lo,rfl,-⟩:=h5 0 (I p.1) rfl
 have key:∀ w',zax w' v (p::l)->∀ j u,(zaB (p::l))[j]?=some u->w'.cell? ⟨lb,lo+j,none⟩=some u:=fun w' hw j u hj=>by
  obtain ⟨_,ao',lc',e',_,_,_,h5'⟩:=hw
  obtain ⟨b,o,ea,hc⟩:=h5' j u hj
  rw [e,ea] at e'
  simp only [Value.slice.injEq,Option.some.injEq,Addr.mk.injEq,and_true] at e'
  obtain ⟨⟨rfl,rfl⟩,_⟩:=e'
  exact hc
 refine ⟨lb,lo,lc,e,by simpa using h3,h4,h.imp fun w' hw=>⟨key w' hw 0 _ rfl,key w' hw 1 _ rfl⟩,h.imp fun w' hw=>?_⟩
 refine ⟨zcF l,_,_,rfl,by simp at h3; omega,by omega,(fun h=>by cases h),fun j u hj=>⟨lb,lo+2,rfl,?_⟩⟩
 have:=key w' hw (j+2) u (by simpa [zaB] using hj)
 rw [show lo+2+j=lo+(j+2) by omega]
 exact this
theorem zid (w:World) (b off cap:Nat) (hc:cap<=maxLen):zax w (.slice (some ⟨b,off,none⟩) 0 cap) []:=zpe w b off cap hc

theorem zj7 {b:List UInt8} (h:(readRq b).2=0):zbJ (readRq b).1=0:=by
 unfold readRq at *
 split at h
 ·exact absurd h (by decide)
 ·split at h
  ·rename_i h2 h3; exact absurd h h3
  ·rename_i h2 h3
   rw [if_neg h2,if_neg h3]
   exact Classical.byContradiction h3
theorem Has.rd {base:Nat} {w:World} {u:Value} {l:List (Int×Int)} (h:Has base w u l):Rd (fun k=>base<=k) (fun w=>zax w u l) w:=by
 obtain ⟨x,m,lo,h1,h2⟩:=h
 intro w2 hw
 refine h2 w2 ⟨h1.1,?_⟩
 rcases h1.2 with h | ⟨g,cap,cur,e,hb,hg,hr⟩
 ·exact .inl h
 ·exact .inr ⟨g,cap,cur,e,hb,by rw [hw g hb (Array.getElem?_eq_some_iff.1 hg).1]; exact hg,hr⟩

end Go.Proofs.YtdmipnnfoolelafGreat

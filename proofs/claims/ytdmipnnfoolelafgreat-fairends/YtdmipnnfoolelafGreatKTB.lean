/- Texts of the proof, merged: Read Math2 Math3 Read2 Mem2 Math7 Read3 Mem3. -/
import Derived.Test.YtdmipnnfoolelafGreatKTA
import Derived.ProofKit
import Derived.SizedLaws
import Derived.Lib.SmallJoins
import Derived.Deep.Strs
import Derived.Laws.IdiomStrings

namespace Go.Mk
open Go Go.RowKit Go.ChangeShapes Go.WideShapes

theorem zpH {Y:Type} (n:Nat) {Q:Nat->Y->Prop} (h:∀ i,i < n->∃ y,Q i y):∃ l:List Y,l.length=n/\∀ i y,l[i]?=some y->Q i y:=by
 induction n with
 | zero=>exact ⟨[],rfl,fun i y hy=>by simp at hy⟩
 | succ n ih =>
  obtain ⟨l,hl,hq⟩:=ih (fun i hi=>h i (by omega))
  obtain ⟨y,hy⟩:=h n (by omega)
  refine ⟨l++[y],by simp [hl],fun i z hz=>?_⟩
  by_cases hi:i < l.length
  ·rw [List.getElem?_append_left hi] at hz
   exact hq i z hz
  ·rw [List.getElem?_append_right (by omega)] at hz
   have:i - l.length=0:=by
    have:=(List.getElem?_eq_some_iff.1 hz).1
    simp at this
    omega
   rw [this] at hz
   simp at hz
   subst hz
   rw [show i=n by omega]
   exact hy

theorem zhQ {Y:Type} (sz:Nat) (hsz:0 < sz):∀ (css:List (List Y)),(∀ c ∈ css,c.length=sz)->∀ j,css.flatten[j]?=(css[j / sz]?).bind (fun c=>c[j % sz]?)
 | [],_,j=>by simp
 | c::css,h,j=>by
  have hc:c.length=sz:=h c (by simp)
  rw [List.flatten_cons]
  by_cases hj:j < sz
  ·rw [List.getElem?_append_left (by omega),Nat.div_eq_of_lt hj,Nat.mod_eq_of_lt hj]
   rfl
  ·rw [List.getElem?_append_right (by omega),zhQ sz hsz css (fun c hc=>h c (by simp [hc])),hc]
   obtain ⟨k,rfl⟩:∃ k,j=k+sz:=⟨j - sz,by omega⟩
   rw [Nat.add_sub_cancel,Nat.add_div_right _ hsz,Nat.add_mod_right]
   rfl
theorem zff {Y:Type} (sz:Nat):∀ (css:List (List Y)),(∀ c ∈ css,c.length=sz)->css.flatten.length=css.length * sz
 | [],_=>by simp
 | c::css,h=>by
  rw [List.flatten_cons,List.length_append,zff sz css (fun c hc=>h c (by simp [hc])),h c (by simp),List.length_cons,Nat.add_mul]
  omega

section
variable {P:Program} {H:Type} {enc:TypeId×Value->H} {W:World} {X:Type}

theorem zdj {w:World} {base:Nat} {a:Addr} {n:Nat} {cs:List Value} (h:w.cells? base a n=some cs):cs.length=n/\∀ i u,cs[i]?=some u->w.cell? (a.add i)=some u:=by
 obtain ⟨_,h2,h3⟩:=World.cells?_some h
 refine ⟨h2,fun i u hu=>?_⟩
 have hi:i < n:=by have:=(List.getElem?_eq_some_iff.1 hu).1; omega
 rw [h3 i hi]
 exact hu

theorem zrI (a:Addr) (i j:Nat) (h:a.spot=none):(a.add i).add j=⟨a.block,a.off+(i+j),none⟩:=by
 obtain ⟨b,off,spot⟩:=a
 simp only at h
 subst h
 rw [add_plain,add_plain,Nat.add_assoc]

theorem zkm {t e:TypeId} {sz:Nat} (hsz:0 < sz) {v:Value} {d:DataW H} {p:List MemPlace} (R:List Value->X->Prop) (ht:P.underlying t=some (.slice e)) (hc:P.cellsOf e=sz)
  (hR:∀ fuel cs z,DataW.trod enc P W 0 (fun _=>true) true fuel e cs=some z->cs.length=sz->∃ x,R cs x)
  {cs0:List Value} {fuel:Nat} (hcs0:cs0=[v]) (hf:DataW.trod enc P W 0 (fun _=>true) true fuel t cs0=some (d,p)) :
  ∃ (xs:List X) (css:List (List Value)),Row W sz v xs.length css.flatten/\css.length=xs.length/\(∀ (i:Nat) c x,css[i]?=some c->xs[i]?=some x->c.length=sz/\R c x) /\
   (xs=[]∨∃ elems spare,d=.slice elems spare/\elems.length=xs.length):=by
 subst hcs0
 rcases DataW.trod_slice ht hf with ⟨hcs,hx⟩ | ⟨a,len,cap,elems,rest,n,_,hcs,hx,_,hl,hm,hlen,hel,_,_⟩
 ·simp at hcs
  subst hcs
  exact ⟨[],[],Row.of_owns (World.ownsRow_nil W 0 0 sz),rfl,fun i c x hi=>by simp at hi,.inl rfl⟩
 ·simp at hcs
  subst hcs
  simp only [Prod.mk.injEq] at hx
  obtain ⟨rfl,rfl⟩:=hx
  rw [hc] at hel
  obtain ⟨l,hll,hq⟩:=zpH (Y:=List Value×X) len (Q:=fun i y=>W.cells? 0 (a.add (i * sz)) sz=some y.1/\R y.1 y.2) (fun i hi=>by
   have h1:=hel i hi
   obtain ⟨z,hz⟩:∃ z,elems[i]?=some z:=⟨elems[i]'(by omega),by simp⟩
   rw [hz,Option.bind_eq_some_iff] at h1
   obtain ⟨cs,hcs,hz'⟩:=h1
   obtain ⟨x,hx⟩:=hR _ _ _ hz' (zdj hcs).1
   exact ⟨(cs,x),hcs,hx⟩)
  have hall:∀ c ∈ l.map (·.1),c.length=sz:=fun c hcm=>by
   obtain ⟨y,hy,rfl⟩:=List.mem_map.1 hcm
   obtain ⟨i,hi⟩:=List.mem_iff_getElem?.1 hy
   exact (zdj (hq i y hi).1).1
  refine ⟨l.map (·.2),l.map (·.1),⟨?_,some a,cap,by simp [hll],by simp [hll]; exact hl,hm,fun h=>(by cases h),fun j u hj=>?_⟩,by simp,fun i c x hi hx=>?_,.inr ⟨_,_,rfl,by simp [hll,hlen]⟩⟩
  ·rw [zff sz _ hall]; simp
  ·rw [zhQ sz hsz _ hall,Option.bind_eq_some_iff] at hj
   obtain ⟨c,hci,hcj⟩:=hj
   rw [List.getElem?_map] at hci
   cases hy:l[j / sz]? with
   | none=>rw [hy] at hci; cases hci
   | some y =>
    rw [hy] at hci
    simp at hci
    subst hci
    have hcell:=(zdj (hq _ _ hy).1).2 _ _ hcj
    have hspot:a.spot=none:=by
     by_cases h0:j / sz * sz=0
     ·rw [h0] at hcell
      by_cases h1:j % sz=0
      ·rw [h1] at hcell
       have:=World.cell?_spot hcell
       simpa [Addr.add] using this
      ·have h2:=(zdj (hq _ _ hy).1).2 0
       have h3:0 < y.1.length:=by have:=(List.getElem?_eq_some_iff.1 hcj).1; omega
       have h4:=h2 _ (List.getElem?_eq_getElem h3)
       rw [h0] at h4
       have:=World.cell?_spot h4
       simpa [Addr.add] using this
     ·-- the first element's first cell
      have hl0:0 < l.length:=Nat.lt_of_le_of_lt (Nat.zero_le _) (List.getElem?_eq_some_iff.1 hy).1
      have h5:=hq 0 _ (List.getElem?_eq_getElem hl0)
      have h6:=zdj h5.1
      have h7:=h6.2 0 _ (List.getElem?_eq_getElem (by omega))
      have:=World.cell?_spot h7
      simpa [Addr.add] using this
    rw [zrI a _ _ hspot,Nat.div_add_mod' j sz] at hcell
    obtain ⟨b,off,spot⟩:=a
    simp only at hspot
    subst hspot
    exact ⟨b,off,rfl,hcell⟩
  ·rw [List.getElem?_map] at hi hx
   cases hy:l[i]? with
   | none=>rw [hy] at hi; cases hi
   | some y =>
    rw [hy] at hi hx
    simp at hi hx
    subst hi hx
    exact ⟨(zdj (hq _ _ hy).1).1,(hq _ _ hy).2⟩

theorem zlQ {f:X->List Value}:∀ {css:List (List Value)} {xs:List X},css.length=xs.length->(∀ (i:Nat) c x,css[i]?=some c->xs[i]?=some x->c=f x)->css.flatten=xs.flatMap f
 | [],[],_,_=>rfl
 | [],_::_,h,_=>by cases h
 | _::_,[],h,_=>by cases h
 | c::css,x::xs,h,hq=>by
  rw [List.flatten_cons,List.flatMap_cons,hq 0 c x rfl rfl,zlQ (by simpa using h) (fun i c x hc hx=>hq (i+1) c x hc hx)]

theorem zpb {e:TypeId} {f0 f1:Field} {fuel:Nat} {cs:List Value} {z:DataW H×List MemPlace} (he:P.underlying e=some (.struct #[f0,f1])) (hc:P.cellsOf e=2)
  (h0:P.underlying f0.type=some (.int .i64)) (h1:P.underlying f1.type=some (.int .i64)) (o0:f0.offset=0) (o1:f1.offset=1) (c0:P.cellsOf f0.type=1) (c1:P.cellsOf f1.type=1)
  (hz:DataW.trod enc P W 0 (fun _=>true) true fuel e cs=some z):∃ x:Int×Int,cs=[I x.1,I x.2]:=by
 obtain ⟨y0,y1,m,hx,hcl,t0,t1⟩:=trod_struct2 he hz
 rw [hc] at hcl
 obtain ⟨u0,u1,rfl⟩:∃ u0 u1,cs=[u0,u1]:=by
  match cs,hcl with
  | [u0,u1],_=>exact ⟨u0,u1,rfl⟩
 rw [o0,c0] at t0
 rw [o1,c1] at t1
 obtain ⟨x,e0,_⟩:=DataW.trod_int h0 t0
 obtain ⟨y,e1,_⟩:=DataW.trod_int h1 t1
 simp at e0 e1
 exact ⟨(x,y),by rw [e0,e1]⟩

theorem zfo {t e:TypeId} {f0 f1:Field} {v:Value} {d:DataW H} {p:List MemPlace} (ht:P.underlying t=some (.slice e)) (he:P.underlying e=some (.struct #[f0,f1])) (hc:P.cellsOf e=2)
  (h0:P.underlying f0.type=some (.int .i64)) (h1:P.underlying f1.type=some (.int .i64)) (o0:f0.offset=0) (o1:f1.offset=1) (c0:P.cellsOf f0.type=1) (c1:P.cellsOf f1.type=1)
  {b0:Nat} (hv:Value.okWide P W .any b0 t v) (h:DataW.Trod enc P W 0 (fun _=>true) true t v d p) :
  ∃ l:List (Int×Int),zax W v l/\(l=[]∨∃ elems spare,d=.slice elems spare/\elems.length=l.length):=by
 obtain ⟨a0,len,cap,rfl⟩:=okWide_slice ht hv
 obtain ⟨fuel,hf⟩:=h
 obtain ⟨xs,css,hr,hl,hq,hs⟩:=zkm (X:=Int×Int) (by decide) (fun cs x=>cs=[I x.1,I x.2]) ht hc (fun fuel cs z hz _=>zpb he hc h0 h1 o0 o1 c0 c1 hz) rfl hf
 refine ⟨xs,?_,hs⟩
 rw [zlQ (f:=fun x=>[I x.1,I x.2]) hl (fun i c x hc hx=>(hq i c x hc hx).2)] at hr
 exact hr

end
open Go Go.RowKit

structure Cl where
 kind:Int
 name:Int
 other:Int
 n:Int
structure Rp where
 err:Int
 n:Int
structure Rq where
 client:Int
 token:Int
 call:Cl
abbrev Cl.val (c:Cl):Value:=.agg #[I c.kind,I c.name,I c.other,I c.n]
abbrev Rp.val (r:Rp):Value:=.agg #[I r.err,I r.n]

def wrongCl (c:Cl):Int :=
 if ¬ (1<=c.kind/\c.kind<=6) then 1
 else if c.kind=5/\c.name≠0∨c.kind≠5/\¬ (1<=c.name/\c.name<=255) then 7
 else if c.kind=6/\¬ (1<=c.other/\c.other<=255)∨c.kind≠6/\c.other≠0 then 7
 else if (c.kind=1∨c.kind=4)/\¬ (-1073741824<=c.n/\c.n<=1073741824)∨¬ (c.kind=1∨c.kind=4)/\c.n≠0 then 3
 else 0

def at1 (l:List (Int×Int)) (name:Int):Nat:=l.findIdx (fun p=>p.1 == name)
def num (l:List (Int×Int)) (i:Nat):Int:=(l.getD i (0,0)).2
def zc2 (l:List (Int×Int)) (i:Nat) (n:Int):List (Int×Int):=l.set i ((l.getD i (0,0)).1,n)

def zbw (l:List (Int×Int)) (c:Cl):List (Int×Int)×Rp :=
 if c.kind=5 then (l,⟨0,l.length⟩)
 else if c.kind=1 then
  if at1 l c.name < l.length then (zc2 l (at1 l c.name) c.n,⟨0,num l (at1 l c.name)⟩)
  else if 5<=l.length then (l,⟨9,0⟩) else (l++[(c.name,c.n)],⟨0,0⟩)
 else if ¬ at1 l c.name < l.length then (l,⟨6,0⟩)
 else if c.kind=2 then (l,⟨0,num l (at1 l c.name)⟩)
 else if c.kind=3 then ((l.set (at1 l c.name) (l.getD (l.length - 1) (0,0))).take (l.length - 1),⟨0,num l (at1 l c.name)⟩)
 else if c.kind=4 then
  if ¬ (-1073741824<=num l (at1 l c.name)+c.n/\num l (at1 l c.name)+c.n<=1073741824) then (l,⟨3,0⟩)
  else (zc2 l (at1 l c.name) (num l (at1 l c.name)+c.n),⟨0,num l (at1 l c.name)+c.n⟩)
 else if ¬ at1 l c.other < l.length then (l,⟨6,0⟩)
 else (zc2 (zc2 l (at1 l c.name) (num l (at1 l c.other))) (at1 l c.other) (num l (at1 l c.name)),⟨0,num l (at1 l c.other)⟩)

def Okn (l:List (Int×Int)):Prop:=l.length<=5/\(∀ p ∈ l,1<=p.1/\p.1<=255/\-1073741824<=p.2/\p.2<=1073741824)/\(l.map Prod.fst).Nodup

def Okw (l:List (Int×Int)):Prop:=l.length<=5/\∀ p ∈ l,0<=p.1/\p.1<=255/\-1073741824<=p.2/\p.2<=1073741824
theorem Okn.w {l:List (Int×Int)} (h:Okn l):Okw l:=⟨h.1,fun p hp=>by have:=h.2.1 p hp; omega⟩
theorem Okw.len {l:List (Int×Int)} (h:Okw l):l.length<=5:=h.1
theorem Okw.at {l:List (Int×Int)} (h:Okw l) {i:Nat} (hi:i < l.length):0<=(l.getD i (0,0)).1/\(l.getD i (0,0)).1<=255/\-1073741824<=(l.getD i (0,0)).2/\(l.getD i (0,0)).2<=1073741824:=by
 rw [List.getD_eq_getElem?_getD,List.getElem?_eq_getElem hi]
 exact h.2 _ (List.getElem_mem hi)

theorem zl3 (l:List (Int×Int)) (name:Int):at1 l name<=l.length:=List.findIdx_le_length
theorem zeP {l:List (Int×Int)} {name:Int} (h:at1 l name < l.length):(l.getD (at1 l name) (0,0)).1=name:=by
 have:=List.findIdx_getElem (w:=h)
 rw [List.getD_eq_getElem?_getD,List.getElem?_eq_getElem h]
 exact eq_of_beq this
theorem zlL {l:List (Int×Int)} {name:Int} {k:Nat} (hk:k < l.length) (h:(l.getD k (0,0)).1=name) (hb:∀ j,j < k->(l.getD j (0,0)).1≠name):at1 l name=k:=by
 unfold at1
 rw [List.findIdx_eq hk]
 refine ⟨by simpa [List.getD_eq_getElem?_getD,hk] using h,fun j hj=>?_⟩
 have:=hb j hj
 simpa [List.getD_eq_getElem?_getD,Nat.lt_trans hj hk] using this
theorem zia {l:List (Int×Int)} {name:Int} (hb:∀ j,j < l.length->(l.getD j (0,0)).1≠name):at1 l name=l.length:=by
 unfold at1
 rw [List.findIdx_eq_length]
 intro p hp
 obtain ⟨j,hj,rfl⟩:=List.mem_iff_getElem.1 hp
 have:=hb j hj
 simpa [List.getD_eq_getElem?_getD,hj] using this
theorem ze0 {l:List (Int×Int)} {name:Int} {j:Nat} (h:j < at1 l name):(l.getD j (0,0)).1≠name:=by
 have hl:j < l.length:=Nat.lt_of_lt_of_le h (zl3 l name)
 have:=List.not_of_lt_findIdx h
 simpa [List.getD_eq_getElem?_getD,hl] using this

theorem Okn.len {l:List (Int×Int)} (h:Okn l):l.length<=5:=h.1
theorem Okn.at {l:List (Int×Int)} (h:Okn l) {i:Nat} (hi:i < l.length):1<=(l.getD i (0,0)).1/\(l.getD i (0,0)).1<=255/\-1073741824<=(l.getD i (0,0)).2/\(l.getD i (0,0)).2<=1073741824:=by
 rw [List.getD_eq_getElem?_getD,List.getElem?_eq_getElem hi]
 exact h.2.1 _ (List.getElem_mem hi)
theorem Okn.uni {l:List (Int×Int)} (h:Okn l) {i j:Nat} (hi:i < l.length) (hj:j < l.length) (e:(l.getD i (0,0)).1=(l.getD j (0,0)).1):i=j:=by
 have h2:=h.2.2
 rw [List.nodup_iff_pairwise_ne,List.pairwise_iff_getElem] at h2
 rw [List.getD_eq_getElem?_getD,List.getElem?_eq_getElem hi,List.getD_eq_getElem?_getD,List.getElem?_eq_getElem hj] at e
 rcases Nat.lt_trichotomy i j with hlt | heq | hgt
 ·exact absurd (by rw [List.getElem_map,List.getElem_map]; exact e) (h2 i j (by simpa using hi) (by simpa using hj) hlt)
 ·exact heq
 ·exact absurd (by rw [List.getElem_map,List.getElem_map]; exact e.symm) (h2 j i (by simpa using hj) (by simpa using hi) hgt)
theorem zjS {l:List (Int×Int)} (h1:l.length<=5) (h2:∀ i,i < l.length->1<=(l.getD i (0,0)).1/\(l.getD i (0,0)).1<=255/\-1073741824<=(l.getD i (0,0)).2/\(l.getD i (0,0)).2<=1073741824)
  (h3:∀ i j,i < j->j < l.length->(l.getD i (0,0)).1≠(l.getD j (0,0)).1):Okn l:=by
 refine ⟨h1,fun p hp=>?_,?_⟩
 ·obtain ⟨i,hi,rfl⟩:=List.mem_iff_getElem.1 hp
  have:=h2 i hi
  rwa [List.getD_eq_getElem?_getD,List.getElem?_eq_getElem hi] at this
 ·rw [List.nodup_iff_pairwise_ne,List.pairwise_iff_getElem]
  intro i j hi hj hij
  have:=h3 i j hij (by simpa using hj)
  rw [List.length_map] at hi hj
  rw [List.getD_eq_getElem?_getD,List.getElem?_eq_getElem hi,List.getD_eq_getElem?_getD,List.getElem?_eq_getElem hj] at this
  simpa using this

theorem za5 (l:List (Int×Int)) (i:Nat) (n:Int):(zc2 l i n).length=l.length:=by simp [zc2]
theorem zeh (l:List (Int×Int)) (i j:Nat) (n:Int) (hi:i < l.length):(zc2 l i n).getD j (0,0)=if i=j then ((l.getD j (0,0)).1,n) else l.getD j (0,0):=by
 unfold zc2
 rw [List.getD_eq_getElem?_getD,List.getElem?_set]
 by_cases h:i=j
 ·subst h; rw [if_pos rfl,if_pos hi,if_pos rfl]; rfl
 ·rw [if_neg h,if_neg h,List.getD_eq_getElem?_getD]
theorem zeY (l:List (Int×Int)) (i j:Nat) (n:Int) (hi:i < l.length):((zc2 l i n).getD j (0,0)).1=(l.getD j (0,0)).1:=by
 rw [zeh l i j n hi]; split <;> rfl
theorem zfX (l:List (Int×Int)) (i j:Nat) (n:Int) (hi:i < l.length):((zc2 l i n).getD j (0,0)).2=if i=j then n else (l.getD j (0,0)).2:=by
 rw [zeh l i j n hi]; split <;> rfl
theorem zmV (l:List (Int×Int)) (i j:Nat) (n:Int) (hi:i < l.length):num (zc2 l i n) j=if i=j then n else num l j:=zfX l i j n hi
theorem zm8 {l m:List (Int×Int)} (h:l.length=m.length) (hj:∀ j,j < l.length->l.getD j (0,0)=m.getD j (0,0)):l=m:=by
 refine List.ext_getElem h fun i h1 h2=>?_
 have:=hj i h1
 rwa [List.getD_eq_getElem?_getD,List.getElem?_eq_getElem h1,List.getD_eq_getElem?_getD,List.getElem?_eq_getElem h2] at this
theorem zil {l:List (Int×Int)} (h:Okn l) {i:Nat} (hi:i < l.length) {n:Int} (h1:-1073741824<=n) (h2:n<=1073741824):Okn (zc2 l i n):=by
 refine zjS (by rw [za5]; exact h.1) (fun j hj=>?_) (fun j k hjk hk=>?_)
 ·rw [za5] at hj
  rw [zeY l i j n hi,zfX l i j n hi]
  have:=h.at hj
  split <;> omega
 ·rw [za5] at hk
  rw [zeY l i j n hi,zeY l i k n hi]
  intro e
  have:=h.uni (by omega) hk e
  omega
theorem zeR (l:List (Int×Int)) (i j:Nat) (hi:i < l.length) (hj:j < l.length - 1):((l.set i (l.getD (l.length - 1) (0,0))).take (l.length - 1)).getD j (0,0)=if i=j then l.getD (l.length - 1) (0,0) else l.getD j (0,0):=by
 rw [List.getD_eq_getElem?_getD,List.getElem?_take,if_pos hj,List.getElem?_set]
 by_cases h:i=j
 ·rw [if_pos h,if_pos hi,if_pos h]; rfl
 ·rw [if_neg h,if_neg h,<- List.getD_eq_getElem?_getD]
theorem zdu (l:List (Int×Int)) (i:Nat) (p:Int×Int):((l.set i p).take (l.length - 1)).length=l.length - 1:=by simp

theorem zqx {l:List (Int×Int)} {c:Cl} (h:l.length<=5):(zbw l c).1.length<=5:=by
 unfold zbw
 repeat' split
 all_goals first | exact h | (simp only [za5,zdu,List.length_append,List.length_cons,List.length_nil]; omega)

theorem zlW {l:List (Int×Int)} {c:Cl} (h:Okn l) (hc:wrongCl c=0):Okn (zbw l c).1/\((zbw l c).2.err=0∨(zbw l c).2.n=0/\(zbw l c).1=l)/\-1073741824<=(zbw l c).2.n/\(zbw l c).2.n<=1073741824:=by
 have hl:=h.len
 have hnum:∀ i,i < l.length->-1073741824<=num l i/\num l i<=1073741824:=fun i hi=>(h.at hi).2.2
 unfold wrongCl at hc
 by_cases k1:1<=c.kind/\c.kind<=6
 case neg=>rw [if_pos k1] at hc; cases hc
 rw [if_neg (by simpa using k1)] at hc
 split at hc
 ·cases hc
 rename_i hn
 split at hc
 ·cases hc
 rename_i ho
 split at hc
 ·cases hc
 rename_i hm
 unfold zbw
 by_cases h5:c.kind=5
 ·rw [if_pos h5]
  exact ⟨h,.inl rfl,by simp only; omega,by simp only; omega⟩
 rw [if_neg h5]
 by_cases h1:c.kind=1
 ·rw [if_pos h1]
  by_cases ha:at1 l c.name < l.length
  ·rw [if_pos ha]
   exact ⟨zil h ha (by omega) (by omega),.inl rfl,(hnum _ ha).1,(hnum _ ha).2⟩
  ·rw [if_neg ha]
   by_cases hf:5<=l.length
   ·rw [if_pos hf]
    exact ⟨h,.inr ⟨rfl,rfl⟩,by simp only; omega,by simp only; omega⟩
   ·rw [if_neg hf]
    have e:at1 l c.name=l.length:=by have:=zl3 l c.name; omega
    refine ⟨zjS (by simp; omega) (fun j hj=>?_) (fun j k hjk hk=>?_),.inl rfl,by simp only; omega,by simp only; omega⟩
    ·simp only [List.length_append,List.length_cons,List.length_nil] at hj
     by_cases hj':j < l.length
     ·rw [List.getD_eq_getElem?_getD,List.getElem?_append_left hj',<- List.getD_eq_getElem?_getD]
      exact h.at hj'
     ·rw [List.getD_eq_getElem?_getD,List.getElem?_append_right (by omega),show j - l.length=0 by omega]
      show 1<=c.name/\c.name<=255/\-1073741824<=c.n/\c.n<=1073741824
      omega
    ·simp only [List.length_append,List.length_cons,List.length_nil] at hk
     rw [List.getD_eq_getElem?_getD,List.getElem?_append_left (by omega),<- List.getD_eq_getElem?_getD]
     by_cases hk':k < l.length
     ·rw [List.getD_eq_getElem?_getD (i:=k),List.getElem?_append_left hk',<- List.getD_eq_getElem?_getD]
      intro he
      have:=h.uni (by omega) hk' he
      omega
     ·rw [List.getD_eq_getElem?_getD (i:=k),List.getElem?_append_right (by omega),show k - l.length=0 by omega]
      exact ze0 (name:=c.name) (by omega)
 rw [if_neg h1]
 by_cases ha:at1 l c.name < l.length
 case neg=>rw [if_pos ha]; exact ⟨h,.inr ⟨rfl,rfl⟩,by simp only; omega,by simp only; omega⟩
 rw [if_neg (by simpa using ha)]
 by_cases h2:c.kind=2
 ·rw [if_pos h2]; exact ⟨h,.inl rfl,(hnum _ ha).1,(hnum _ ha).2⟩
 rw [if_neg h2]
 by_cases h3:c.kind=3
 ·rw [if_pos h3]
  refine ⟨zjS (by rw [zdu]; omega) (fun j hj=>?_) (fun j k hjk hk=>?_),.inl rfl,(hnum _ ha).1,(hnum _ ha).2⟩
  ·rw [zdu] at hj
   rw [zeR l _ j ha hj]
   split
   ·exact h.at (by omega)
   ·exact h.at (by omega)
  ·rw [zdu] at hk
   rw [zeR l _ j ha (by omega),zeR l _ k ha hk]
   intro he
   by_cases ej:at1 l c.name=j
   ·rw [if_pos ej,if_neg (by omega)] at he
    have:=h.uni (by omega) (by omega) he
    omega
   ·rw [if_neg ej] at he
    by_cases ek:at1 l c.name=k
    ·rw [if_pos ek] at he
     have:=h.uni (by omega) (by omega) he
     omega
    ·rw [if_neg ek] at he
     have:=h.uni (by omega) (by omega) he
     omega
 rw [if_neg h3]
 by_cases h4:c.kind=4
 ·rw [if_pos h4]
  by_cases hs:-1073741824<=num l (at1 l c.name)+c.n/\num l (at1 l c.name)+c.n<=1073741824
  ·rw [if_neg (by simpa using hs)]
   exact ⟨zil h ha hs.1 hs.2,.inl rfl,hs.1,hs.2⟩
  ·rw [if_pos hs]; exact ⟨h,.inr ⟨rfl,rfl⟩,by simp only; omega,by simp only; omega⟩
 rw [if_neg h4]
 by_cases hb:at1 l c.other < l.length
 case neg=>rw [if_pos hb]; exact ⟨h,.inr ⟨rfl,rfl⟩,by simp only; omega,by simp only; omega⟩
 rw [if_neg (by simpa using hb)]
 exact ⟨zil (zil h ha (hnum _ hb).1 (hnum _ hb).2) (by rw [za5]; exact hb) (hnum _ ha).1 (hnum _ ha).2,.inl rfl,(hnum _ hb).1,(hnum _ hb).2⟩

open Go Go.RowKit

def zhI (s:List (Int×Int)×List (Int×Int)) (c:Cl):List (Int×Int)×List (Int×Int):=((zbw s.1 c).1,s.2++[((zbw s.1 c).2.err,(zbw s.1 c).2.n)])

def zef (cs:List Cl):List (Int×Int)×List (Int×Int):=cs.foldl zhI ([],[])

theorem zhV (cs:List Cl) (c:Cl):zef (cs++[c])=zhI (zef cs) c:=by simp [zef]

theorem znF {cs:List Cl} {k:Nat} {c:Cl} (h:cs[k]?=some c):zef (cs.take (k+1))=zhI (zef (cs.take k)) c:=by
 rw [List.take_add_one,h]
 exact zhV _ _

theorem okn_nil:Okn []:=zjS (by simp) (fun i hi=>by simp at hi) (fun i j _ hj=>by simp at hj)

theorem zsQ {cs:List Cl} (h:∀ c ∈ cs,wrongCl c=0) (k:Nat):Okn (zef (cs.take k)).1/\(zef (cs.take k)).2.length=min k cs.length:=by
 induction k with
 | zero=>exact ⟨okn_nil,by simp [zef]⟩
 | succ k ih =>
  by_cases hk:k < cs.length
  ·have hg:cs[k]?=some cs[k]:=List.getElem?_eq_getElem hk
   rw [znF hg]
   refine ⟨(zlW ih.1 (h _ (List.getElem_mem hk))).1,?_⟩
   simp only [zhI,List.length_append,List.length_cons,List.length_nil,ih.2]
   omega
  ·rw [List.take_of_length_le (by omega)]
   rw [List.take_of_length_le (by omega)] at ih
   exact ⟨ih.1,by rw [ih.2]; omega⟩

def zaN (xs:List Int) (n:Nat):List (Int×Int):=(List.range n).map fun i=>(xs.getD (1+2 * i) 0,xs.getD (1+2 * i+1) 0)

theorem zh5 (xs:List Int) (n:Nat):zaN xs (n+1)=zaN xs n++[(xs.getD (1+2 * n) 0,xs.getD (1+2 * n+1) 0)]:=by simp [zaN,List.range_succ]

theorem zaV (xs:List Int) (n:Nat):(zaN xs n).length=n:=by simp [zaN]

def zbE (l:List Rq):List Value:=l.flatMap fun r=>[I r.client,I r.token,I r.call.kind,I r.call.name,I r.call.other,I r.call.n]

theorem zkG (l:List Rq):(zbE l).length=l.length * 6:=by
 unfold zbE
 induction l with
 | nil=>rfl
 | cons p l ih=>simp [List.flatMap_cons,ih]; omega

theorem zpA (l:List Rq) (k:Nat) (r:Rq) (h:l[k]?=some r):(zbE l)[k * 6]?=some (I r.client)/\(zbE l)[k * 6+1]?=some (I r.token)/\(zbE l)[k * 6+2]?=some (I r.call.kind) /\
  (zbE l)[k * 6+3]?=some (I r.call.name)/\(zbE l)[k * 6+4]?=some (I r.call.other)/\(zbE l)[k * 6+5]?=some (I r.call.n):=by
 induction l generalizing k with
 | nil=>simp at h
 | cons p l ih =>
  cases k with
  | zero =>
   simp at h
   subst h
   exact ⟨rfl,rfl,rfl,rfl,rfl,rfl⟩
  | succ k =>
   have:=ih k (by simpa using h)
   rw [show (k+1) * 6=k * 6+6 by omega,show k * 6+6+1=k * 6+1+6 by omega,show k * 6+6+2=k * 6+2+6 by omega,show k * 6+6+3=k * 6+3+6 by omega,show k * 6+6+4=k * 6+4+6 by omega,show k * 6+6+5=k * 6+5+6 by omega]
   exact this

def zrA (w:World) (v:Value) (l:List Rq):Prop:=Row w 6 v l.length (zbE l)

theorem zrA.ext {w w':World} {v:Value} {l:List Rq} (h:zrA w v l) (he:Ext w w'):zrA w' v l:=Row.ext h he

theorem zrA.form {w:World} {v:Value} {l:List Rq} (h:zrA w v l):∃ ao cap,v=.slice ao l.length cap/\l.length<=cap/\cap<=maxLen /\
  ∀ k r,l[k]?=some r->∃ b off,ao=some ⟨b,off,none⟩/\w.cell? ⟨b,off+k * 6,none⟩=some (I r.client)/\w.cell? ⟨b,off+k * 6+1,none⟩=some (I r.token)/\w.cell? ⟨b,off+k * 6+2,none⟩=some (I r.call.kind) /\
   w.cell? ⟨b,off+k * 6+3,none⟩=some (I r.call.name)/\w.cell? ⟨b,off+k * 6+4,none⟩=some (I r.call.other)/\w.cell? ⟨b,off+k * 6+5,none⟩=some (I r.call.n):=by
 obtain ⟨_,ao,cap,h2,h3,h4,_,h5⟩:=h
 refine ⟨ao,cap,h2,h3,h4,fun k r hk=>?_⟩
 obtain ⟨c0,c1,c2,c3,c4,c5⟩:=zpA l k r hk
 obtain ⟨b,off,e,q0⟩:=h5 _ _ c0
 have all:∀ j u,(zbE l)[j]?=some u->w.cell? ⟨b,off+j,none⟩=some u:=fun j u hj=>by
  obtain ⟨b',off',e',q⟩:=h5 j u hj
  rw [e] at e'
  simp only [Option.some.injEq,Addr.mk.injEq,and_true] at e'
  obtain ⟨rfl,rfl⟩:=e'
  exact q
 exact ⟨b,off,e,q0,all _ _ c1,all _ _ c2,all _ _ c3,all _ _ c4,all _ _ c5⟩

theorem zkp (l:List (Int×Int)) (a o n:Int):zbw l ⟨1,a,o,n⟩=if at1 l a < l.length then (zc2 l (at1 l a) n,⟨0,num l (at1 l a)⟩) else if 5<=l.length then (l,⟨9,0⟩) else (l++[(a,n)],⟨0,0⟩):=rfl

theorem zjE (l:List (Int×Int)) (a o n:Int):zbw l ⟨2,a,o,n⟩=if ¬ at1 l a < l.length then (l,⟨6,0⟩) else (l,⟨0,num l (at1 l a)⟩):=rfl

theorem zg9 (l:List (Int×Int)) (a o n:Int):zbw l ⟨3,a,o,n⟩=if ¬ at1 l a < l.length then (l,⟨6,0⟩) else ((l.set (at1 l a) (l.getD (l.length - 1) (0,0))).take (l.length - 1),⟨0,num l (at1 l a)⟩):=rfl

theorem zh1 (l:List (Int×Int)) (a o n:Int):zbw l ⟨4,a,o,n⟩=if ¬ at1 l a < l.length then (l,⟨6,0⟩) else if ¬ (-1073741824<=num l (at1 l a)+n/\num l (at1 l a)+n<=1073741824) then (l,⟨3,0⟩) else (zc2 l (at1 l a) (num l (at1 l a)+n),⟨0,num l (at1 l a)+n⟩):=rfl

theorem zgc (l:List (Int×Int)) (a b n:Int):zbw l ⟨6,a,b,n⟩=if ¬ at1 l a < l.length then (l,⟨6,0⟩) else if ¬ at1 l b < l.length then (l,⟨6,0⟩)
  else (zc2 (zc2 l (at1 l a) (num l (at1 l b))) (at1 l b) (num l (at1 l a)),⟨0,num l (at1 l b)⟩):=rfl

theorem zeJ {k a o n:Int} (h:wrongCl ⟨k,a,o,n⟩=0):(k=1∨k=2∨k=3∨k=4∨k=5∨k=6)/\(k=1∨k=4->-1073741824<=n/\n<=1073741824):=by
 unfold wrongCl at h
 dsimp only at h
 repeat' split at h
 all_goals first | exact absurd h (by decide) | (constructor <;> omega)

open Go Go.RowKit Go.ChangeShapes Go.WideShapes

section
variable {P:Program} {H:Type} {enc:TypeId×Value->H} {W:World} {X:Type}

theorem zpv {e:TypeId} {f0 f1 f2 f3:Field} {fuel:Nat} {cs:List Value} {z:DataW H×List MemPlace} (he:P.underlying e=some (.struct #[f0,f1,f2,f3])) (hc:P.cellsOf e=4)
  (h0:P.underlying f0.type=some (.int .i64)) (h1:P.underlying f1.type=some (.int .i64)) (h2:P.underlying f2.type=some (.int .i64)) (h3:P.underlying f3.type=some (.int .i64))
  (o0:f0.offset=0) (o1:f1.offset=1) (o2:f2.offset=2) (o3:f3.offset=3) (c0:P.cellsOf f0.type=1) (c1:P.cellsOf f1.type=1) (c2:P.cellsOf f2.type=1) (c3:P.cellsOf f3.type=1)
  (hz:DataW.trod enc P W 0 (fun _=>true) true fuel e cs=some z):∃ c:Cl,cs=[I c.kind,I c.name,I c.other,I c.n]:=by
 obtain ⟨y0,y1,y2,y3,m,hx,hcl,t0,t1,t2,t3⟩:=Go.Joins.trod_struct4 he hz
 rw [hc] at hcl
 obtain ⟨u0,u1,u2,u3,rfl⟩:∃ u0 u1 u2 u3,cs=[u0,u1,u2,u3]:=by
  match cs,hcl with
  | [u0,u1,u2,u3],_=>exact ⟨u0,u1,u2,u3,rfl⟩
 rw [o0,c0] at t0
 rw [o1,c1] at t1
 rw [o2,c2] at t2
 rw [o3,c3] at t3
 obtain ⟨x0,e0,_⟩:=DataW.trod_int h0 t0
 obtain ⟨x1,e1,_⟩:=DataW.trod_int h1 t1
 obtain ⟨x2,e2,_⟩:=DataW.trod_int h2 t2
 obtain ⟨x3,e3,_⟩:=DataW.trod_int h3 t3
 simp at e0 e1 e2 e3
 exact ⟨⟨x0,x1,x2,x3⟩,by rw [e0,e1,e2,e3]⟩

end
open Go Go.RowKit

abbrev U (b:UInt8):Value:=.int .u8 (b.toNat:Int)

def zbd (w:World) (v:Value) (l:List UInt8):Prop:=Row w 1 v l.length (l.map U)
theorem zbd.ext {w w':World} {v:Value} {l:List UInt8} (h:zbd w v l) (he:Ext w w'):zbd w' v l:=Row.ext h he
theorem zbd.form {w:World} {v:Value} {l:List UInt8} (h:zbd w v l):∃ ao cap,v=.slice ao l.length cap/\l.length<=cap/\cap<=maxLen /\
  ∀ k,k < l.length->∃ b off,ao=some ⟨b,off,none⟩/\w.cell? ⟨b,off+k,none⟩=some (U (l.getD k 0)):=by
 obtain ⟨_,ao,cap,h2,h3,h4,_,h5⟩:=h
 refine ⟨ao,cap,h2,h3,h4,fun k hk=>?_⟩
 exact h5 k _ (by simp [hk])
theorem znq (l:List UInt8):∀ u ∈ l.map U,u.oneCell'=true:=by
 intro u hu
 obtain ⟨x,_,rfl⟩:=List.mem_map.1 hu
 rfl
theorem zhD {w:World} {base e n:Nat} {v:Value} {l:List UInt8} (h:w.ownsRow base e 1 v n (l.map U)):zbd w v l:=by
 have hl:l.length=n:=by simpa using h.1
 subst hl
 exact Row.of_owns h
theorem zbf (w:World):zbd w (.slice none 0 0) []:=zhD (World.ownsRow_nil w 0 0 1)
theorem zk2 (l:List UInt8):∀ v,zcJ (fun w=>zbd w v l):=fun _ _ _ he h=>zbd.ext h he

theorem zg2 {w:World} (e:TypeId) (l:List UInt8) (cs:Array Value) (n:Nat) (hc:cs.toList=l.map U) (hn:l.length=n) (hm:n<=maxLen):zbd (w.alloc (.cells cs e)) (.slice (some ⟨w.heap.size,0,none⟩) n n) l:=by
 subst hn
 have:=World.ownsRow_lit (base:=0) (e:=e) (size:=1) w cs l.length (Nat.zero_le _) hm (by rw [<- Array.length_toList,hc]; simp)
 rw [hc] at this
 exact zhD this

theorem zdO {P:Program} {w:World} {v:Value} {l:List UInt8} (h:zbd w v l) {src dst e:TypeId} (hs:P.underlying src=some (.slice e)) (he:P.underlying e=some (.int .u8)) (hd:P.underlying dst=some .string) :
  (convert src dst v).run P w=.ok (.string ⟨l.toArray⟩) w:=by
 obtain ⟨hl,ao,cap,rfl,hc,hm,h0,hcell⟩:=h
 cases ao with
 | none =>
  have hcap:=h0 rfl
  subst hcap
  have hln:l=[]:=List.eq_nil_of_length_eq_zero (by omega)
  subst hln
  rw [run_convert_bytes_string w src dst e _ _ _ hs he hd]
  rfl
 | some a =>
  refine run_convert_bytes_back w src dst e a cap l hs he hd (fun j hj=>?_)
  obtain ⟨b,off,e',hc'⟩:=hcell j (U l[j]) (by simp [hj])
  simp only [Option.some.injEq] at e'
  subst e'
  rw [add_plain]
  exact hc'

theorem zgw (w:World) (e:TypeId) (l:List UInt8) (hl:l.length<=maxLen) (fr:Nat×Nat) :
  zbd (w.drew.alloc (.cells (bytesRow ⟨l.toArray⟩ (grownCap w l.length 0 e)) e fr)) (.slice (some ⟨w.heap.size,0,none⟩) l.length (grownCap w l.length 0 e)) l:=by
 refine ⟨by simp,_,_,rfl,grownCap_ge _ _ _ _,grownCap_le_maxLen _ _ _ _ hl,(fun h=>by cases h),fun j u hj=>⟨w.heap.size,0,rfl,?_⟩⟩
 have hj':j < l.length:=by have:=(List.getElem?_eq_some_iff.1 hj).1; simpa using this
 have:=World.cell?_alloc_mark w.drew (bytesRow ⟨l.toArray⟩ (grownCap w l.length 0 e)) e fr j
 rw [Nat.zero_add]
 refine Eq.trans this ?_
 rw [bytesRow_at _ _ _ (by simpa using hj')]
 simp [hj'] at hj
 simpa using hj

theorem zbd.drop {w:World} {l:List UInt8} {b off n cap:Nat} (h:zbd w (.slice (some ⟨b,off,none⟩) n cap) l) (k:Nat) (hk:k<=l.length):zbd w (.slice (some ⟨b,off+k,none⟩) (l.length - k) (cap - k)) (l.drop k):=by
 obtain ⟨hl,ao',cap',h2,h3,h4,h0,h5⟩:=h
 simp only [Value.slice.injEq] at h2
 obtain ⟨rfl,rfl,rfl⟩:=h2
 have hd:(l.drop k).length=l.length - k:=List.length_drop
 unfold zbd
 rw [hd]
 refine ⟨by simp,_,_,rfl,by omega,by omega,(fun h=>by cases h),fun j u hj=>?_⟩
 rw [List.getElem?_map,List.getElem?_drop,<- List.getElem?_map] at hj
 obtain ⟨b',off',e',hc'⟩:=h5 (k+j) u hj
 simp only [Option.some.injEq,Addr.mk.injEq,and_true] at e'
 obtain ⟨rfl,rfl⟩:=e'
 exact ⟨b,off+k,rfl,by rw [Nat.add_assoc]; exact hc'⟩

def zdy (base:Nat) (w:World) (v:Value) (l:List UInt8):Prop:=∃ b off n cap,v=.slice (some ⟨b,off,none⟩) n cap/\base<=b/\zbd w v l
theorem zdy.bytes {base:Nat} {w:World} {v:Value} {l:List UInt8} (h:zdy base w v l):zbd w v l:=by
 obtain ⟨_,_,_,_,_,_,h⟩:=h
 exact h
theorem zfp (base:Nat) (l:List UInt8):∀ v,zcJ (fun w=>zdy base w v l):=fun _ _ _ he ⟨b,o,n,c,e,hb,h⟩=>⟨b,o,n,c,e,hb,h.ext he⟩

open Go Go.RowKit

structure An where
 client:Int
 token:Int
 reply:Rp

def zbJ (r:Rq):Int:=if ¬ (0<=r.client/\r.client < 3/\0<=r.token/\r.token < 8) then 3 else wrongCl r.call
def zbz (a:An):Int :=
 if ¬ (0<=a.client/\a.client < 3/\0<=a.token/\a.token < 8)∨a.reply.err < 0∨12 < a.reply.err∨1073741824 < a.reply.n∨a.reply.n < -1073741824∨(0 < a.reply.err/\a.reply.n≠0) then 3 else 0

def byteOf (n:Int):UInt8:=UInt8.ofNat (n % 256).toNat
def u32 (n:Int):Nat:=(n % 4294967296).toNat
def zdG (n:Int):List UInt8:=[UInt8.ofNat (u32 n / 16777216),UInt8.ofNat (u32 n / 65536 % 256),UInt8.ofNat (u32 n / 256 % 256),UInt8.ofNat (u32 n % 256)]
def zmI (u:Nat):Int:=if u < 2147483648 then (u:Int) else (u:Int) - 4294967296
def numB (b:List UInt8):Int:=zmI ((((b.getD 0 0).toNat * 256+(b.getD 1 0).toNat) * 256+(b.getD 2 0).toNat) * 256+(b.getD 3 0).toNat)

theorem zcq {n:Int} (h0:0<=n) (h1:n<=255):((byteOf n).toNat:Int)=n:=by
 unfold byteOf
 rw [UInt8.toNat_ofNat']
 omega
theorem zsV (n:Int):u32 n < 4294967296:=by unfold u32; omega
theorem zpw {n:Int} (h0:-2147483648<=n) (h1:n < 2147483648):zmI (u32 n)=n:=by
 unfold zmI u32
 split <;> omega
theorem zlk {n:Int} (h0:-2147483648<=n) (h1:n < 2147483648):numB (zdG n)=n:=by
 have hu:=zsV n
 unfold numB zdG
 simp only [List.getD_cons_zero,List.getD_cons_succ,UInt8.toNat_ofNat']
 have e:(((u32 n / 16777216 % 256) * 256+u32 n / 65536 % 256 % 256) * 256+u32 n / 256 % 256 % 256) * 256+u32 n % 256 % 256=u32 n:=by omega
 rw [show (2 ^ 8:Nat)=256 from rfl,e,zpw h0 h1]
def zeroRq:Rq:=⟨0,0,⟨0,0,0,0⟩⟩
def zeroAn:An:=⟨0,0,⟨0,0⟩⟩
def zbA (r:Rq):List UInt8:=[113,byteOf r.client,byteOf r.token,byteOf r.call.kind,byteOf r.call.name,byteOf r.call.other]++zdG r.call.n
def zb1 (a:An):List UInt8:=[97,byteOf a.client,byteOf a.token,byteOf a.reply.err]++zdG a.reply.n
def zrp (b:List UInt8):Rq:=⟨(b.getD 1 0).toNat,(b.getD 2 0).toNat,⟨(b.getD 3 0).toNat,(b.getD 4 0).toNat,(b.getD 5 0).toNat,numB (b.drop 6)⟩⟩
def zqf (b:List UInt8):An:=⟨(b.getD 1 0).toNat,(b.getD 2 0).toNat,⟨(b.getD 3 0).toNat,numB (b.drop 4)⟩⟩
def readRq (b:List UInt8):Rq×Int :=
 if b.length≠10∨b.getD 0 0≠113 then (zeroRq,2) else if zbJ (zrp b)≠0 then (zeroRq,zbJ (zrp b)) else (zrp b,0)
def readAn (b:List UInt8):An×Int :=
 if b.length≠8∨b.getD 0 0≠97 then (zeroAn,2) else if zbz (zqf b)≠0 then (zeroAn,zbz (zqf b)) else (zqf b,0)

theorem zeq {r:Rq} (h:zbJ r=0):(0<=r.client/\r.client < 3/\0<=r.token/\r.token < 8)/\wrongCl r.call=0:=by
 unfold zbJ at h
 split at h
 ·exact absurd h (by decide)
 ·rename_i hw
  exact ⟨by omega,h⟩
theorem zkJ {c:Cl} (h:wrongCl c=0):(0<=c.kind/\c.kind<=255)/\(0<=c.name/\c.name<=255)/\(0<=c.other/\c.other<=255)/\(-1073741824<=c.n/\c.n<=1073741824):=by
 unfold wrongCl at h
 repeat' split at h
 all_goals first | exact absurd h (by decide) | skip
 refine ⟨?_,?_,?_,?_⟩ <;> omega
theorem zhv {a:An} (h:zbz a=0):(0<=a.client/\a.client < 3/\0<=a.token/\a.token < 8)/\(0<=a.reply.err/\a.reply.err<=12)/\(-1073741824<=a.reply.n/\a.reply.n<=1073741824)/\(0 < a.reply.err->a.reply.n=0):=by
 unfold zbz at h
 split at h
 ·exact absurd h (by decide)
 ·rename_i hw
  omega
theorem zqN {r:Rq} (h:zbJ r=0):zrp (zbA r)=r:=by
 obtain ⟨hw,hc⟩:=zeq h
 obtain ⟨h1,h2,h3,h4⟩:=zkJ hc
 obtain ⟨cl,tk,⟨k,a,o,n⟩⟩:=r
 simp only at *
 have e:zrp (zbA ⟨cl,tk,⟨k,a,o,n⟩⟩)=⟨((byteOf cl).toNat:Int),((byteOf tk).toNat:Int),⟨((byteOf k).toNat:Int),((byteOf a).toNat:Int),((byteOf o).toNat:Int),numB (zdG n)⟩⟩:=rfl
 rw [e,zcq (by omega) (by omega),zcq (by omega) (by omega),zcq h1.1 h1.2,zcq h2.1 h2.2,zcq h3.1 h3.2,zlk (by omega) (by omega)]
theorem zrr {a:An} (h:zbz a=0):zqf (zb1 a)=a:=by
 obtain ⟨hw,h1,h2,_⟩:=zhv h
 obtain ⟨cl,tk,⟨e0,n⟩⟩:=a
 simp only at *
 have e:zqf (zb1 ⟨cl,tk,⟨e0,n⟩⟩)=⟨((byteOf cl).toNat:Int),((byteOf tk).toNat:Int),⟨((byteOf e0).toNat:Int),numB (zdG n)⟩⟩:=rfl
 rw [e,zcq (by omega) (by omega),zcq (by omega) (by omega),zcq (by omega) (by omega),zlk (by omega) (by omega)]
theorem zhP {r:Rq} (h:zbJ r=0):readRq (zbA r)=(r,0):=by
 have hl:(zbA r).length=10:=rfl
 have h0:(zbA r).getD 0 0=113:=rfl
 unfold readRq
 rw [if_neg (by rw [hl,h0]; simp),zqN h,if_neg (by simp [h])]
theorem zjr {a:An} (h:zbz a=0):readAn (zb1 a)=(a,0):=by
 have hl:(zb1 a).length=8:=rfl
 have h0:(zb1 a).getD 0 0=97:=rfl
 unfold readAn
 rw [if_neg (by rw [hl,h0]; simp),zrr h,if_neg (by simp [h])]
open Go Go.RowKit Go.ChangeShapes Go.WideShapes

section
variable {P:Program} {H:Type} {enc:TypeId×Value->H} {W:World} {X:Type}

end
open Go Go.RowKit

abbrev El (X:Type):=World->List Value->X->Prop
def zgt {X:Type} (R:El X):Prop:=∀ w w' c x,Ext w w'->R w c x->R w' c x
def zsJ {X:Type} (R:El X):Prop:=∀ w c x,R w c x->∀ u ∈ c,u.oneCell'=true

section
variable {X:Type} {size:Nat} {R:El X}

def zdq (size:Nat) (R:El X) (w:World) (css:List (List Value)) (xs:List X):Prop :=
 css.length=xs.length/\∀ (i:Nat) c x,css[i]?=some c->xs[i]?=some x->c.length=size/\R w c x

theorem zdq.ext (hR:zgt R) {w w':World} {css:List (List Value)} {xs:List X} (h:zdq size R w css xs) (he:Ext w w'):zdq size R w' css xs :=
 ⟨h.1,fun i c x hc hx=>⟨(h.2 i c x hc hx).1,hR _ _ _ _ he (h.2 i c x hc hx).2⟩⟩
theorem zdq.nil (w:World):zdq size R w [] []:=⟨rfl,fun i c x hc=>by simp at hc⟩
theorem zdq.snoc {w:World} {css:List (List Value)} {xs:List X} {c:List Value} {x:X} (h:zdq size R w css xs) (hc:c.length=size) (hr:R w c x):zdq size R w (css++[c]) (xs++[x]):=by
 refine ⟨by simp [h.1],fun i d y hd hy=>?_⟩
 by_cases hi:i < css.length
 ·rw [List.getElem?_append_left hi] at hd
  rw [List.getElem?_append_left (by rw [<- h.1]; exact hi)] at hy
  exact h.2 i d y hd hy
 ·have hlt:=(List.getElem?_eq_some_iff.1 hd).1
  simp at hlt
  have hi2:i=css.length:=by omega
  subst hi2
  rw [List.getElem?_append_right (Nat.le_refl _)] at hd
  rw [h.1,List.getElem?_append_right (Nat.le_refl _)] at hy
  simp at hd hy
  subst hd hy
  exact ⟨hc,hr⟩
theorem zdq.append {w:World} {css dss:List (List Value)} {xs ys:List X} (h:zdq size R w css xs) (k:zdq size R w dss ys):zdq size R w (css++dss) (xs++ys):=by
 refine ⟨by simp [h.1,k.1],fun i d y hd hy=>?_⟩
 by_cases hi:i < css.length
 ·rw [List.getElem?_append_left hi] at hd
  rw [List.getElem?_append_left (by rw [<- h.1]; exact hi)] at hy
  exact h.2 i d y hd hy
 ·rw [List.getElem?_append_right (by omega)] at hd
  rw [List.getElem?_append_right (by rw [<- h.1]; omega),<- h.1] at hy
  exact k.2 _ d y hd hy
theorem zdq.take {w:World} {css:List (List Value)} {xs:List X} (h:zdq size R w css xs) (k:Nat):zdq size R w (css.take k) (xs.take k):=by
 refine ⟨by simp [h.1],fun i d y hd hy=>?_⟩
 rw [List.getElem?_take] at hd hy
 split at hd
 ·rw [if_pos (by assumption)] at hy; exact h.2 i d y hd hy
 ·cases hd
theorem zdq.drop {w:World} {css:List (List Value)} {xs:List X} (h:zdq size R w css xs) (k:Nat):zdq size R w (css.drop k) (xs.drop k):=by
 refine ⟨by simp [h.1],fun i d y hd hy=>?_⟩
 rw [List.getElem?_drop] at hd hy
 exact h.2 _ d y hd hy
theorem zdq.set {w:World} {css:List (List Value)} {xs:List X} (h:zdq size R w css xs) (k:Nat) {c:List Value} {x:X} (hc:c.length=size) (hr:R w c x):zdq size R w (css.set k c) (xs.set k x):=by
 refine ⟨by simp [h.1],fun i d y hd hy=>?_⟩
 rw [List.getElem?_set] at hd hy
 split at hd
 ·rename_i hki
  split at hd
  ·rw [if_pos hki,if_pos (by rw [<- h.1]; assumption)] at hy
   simp at hd hy
   subst hd hy
   exact ⟨hc,hr⟩
  ·cases hd
 ·rw [if_neg (by assumption)] at hy
  exact h.2 i d y hd hy
theorem zdq.sizes {w:World} {css:List (List Value)} {xs:List X} (h:zdq size R w css xs):∀ c ∈ css,c.length=size:=fun c hc=>by
 obtain ⟨i,hi⟩:=List.mem_iff_getElem?.1 hc
 have hlt:=(List.getElem?_eq_some_iff.1 hi).1
 have hx:xs[i]?=some (xs[i]'(by rw [<- h.1]; exact hlt)):=List.getElem?_eq_getElem _
 exact (h.2 i c _ hi hx).1
theorem zdq.ones (hO:zsJ R) {w:World} {css:List (List Value)} {xs:List X} (h:zdq size R w css xs):∀ u ∈ css.flatten,u.oneCell'=true:=fun u hu=>by
 obtain ⟨c,hc,huc⟩:=List.mem_flatten.1 hu
 obtain ⟨i,hi⟩:=List.mem_iff_getElem?.1 hc
 have hlt:=(List.getElem?_eq_some_iff.1 hi).1
 have hx:xs[i]?=some (xs[i]'(by rw [<- h.1]; exact hlt)):=List.getElem?_eq_getElem _
 exact hO _ _ _ (h.2 i c _ hi hx).2 u huc

def zas (size:Nat) (R:El X) (w:World) (v:Value) (xs:List X):Prop:=∃ css,zdq size R w css xs/\Row w size v xs.length css.flatten

theorem zas.ext (hR:zgt R) {w w':World} {v:Value} {xs:List X} (h:zas size R w v xs) (he:Ext w w'):zas size R w' v xs:=by
 obtain ⟨css,h1,h2⟩:=h
 exact ⟨css,h1.ext hR he,h2.ext he⟩
theorem zas.mono (hR:zgt R) (xs:List X):∀ v,zcJ (fun w=>zas size R w v xs):=fun _ _ _ he h=>zas.ext hR h he
theorem zas.nil (w:World):zas size R w (.slice none 0 0) []:=⟨[],zdq.nil w,Row.of_owns (World.ownsRow_nil w 0 0 size)⟩

theorem zc9 (hs:0 < size) {css:List (List Value)} (h:∀ c ∈ css,c.length=size) {k j:Nat} {c:List Value} {u:Value} (hc:css[k]?=some c) (hj:c[j]?=some u):css.flatten[k * size+j]?=some u:=by
 have hjl:j < size:=by rw [<- h c (List.mem_of_getElem? hc)]; exact (List.getElem?_eq_some_iff.1 hj).1
 rw [zhQ size hs css h]
 rw [show (k * size+j) / size=k by rw [Nat.mul_comm,Nat.mul_add_div hs,Nat.div_eq_of_lt hjl,Nat.add_zero],show (k * size+j) % size=j by rw [Nat.mul_comm,Nat.mul_add_mod,Nat.mod_eq_of_lt hjl],hc]
 exact hj

theorem zas.form (hs:0 < size) {w:World} {v:Value} {xs:List X} (h:zas size R w v xs):∃ ao cap,v=.slice ao xs.length cap/\xs.length<=cap/\cap<=maxLen/\(ao=none->cap=0) /\
  ∀ k x,xs[k]?=some x->∃ b off c,ao=some ⟨b,off,none⟩/\c.length=size/\R w c x/\∀ j u,c[j]?=some u->w.cell? ⟨b,off+(k * size+j),none⟩=some u:=by
 obtain ⟨css,he,hl,ao,cap,h2,h3,h4,h0,h5⟩:=h
 refine ⟨ao,cap,h2,h3,h4,h0,fun k x hx=>?_⟩
 have hk:k < css.length:=by rw [he.1]; exact (List.getElem?_eq_some_iff.1 hx).1
 have hc:css[k]?=some css[k]:=List.getElem?_eq_getElem hk
 obtain ⟨c1,c2⟩:=he.2 k _ x hc hx
 have hall:=he.sizes
 have h0':∃ u,css[k][0]?=some u:=⟨css[k][0]'(by rw [c1]; exact hs),List.getElem?_eq_getElem _⟩
 obtain ⟨u0,hu0⟩:=h0'
 obtain ⟨b,off,e,_⟩:=h5 _ _ (zc9 hs hall hc hu0)
 refine ⟨b,off,css[k],e,c1,c2,fun j u hj=>?_⟩
 obtain ⟨b',off',e',hc'⟩:=h5 _ _ (zc9 hs hall hc hj)
 rw [e] at e'
 simp only [Option.some.injEq,Addr.mk.injEq,and_true] at e'
 obtain ⟨rfl,rfl⟩:=e'
 exact hc'

theorem zgn (hs:0 < size):∀ {css:List (List Value)} (_:∀ c ∈ css,c.length=size) (k:Nat),(css.take k).flatten=css.flatten.take (k * size)
 | [],_,k=>by simp
 | c::css,h,0=>by simp
 | c::css,h,k+1=>by
  have hc:c.length=size:=h c (by simp)
  rw [List.take_succ_cons,List.flatten_cons,List.flatten_cons,zgn hs (fun c hc=>h c (by simp [hc])) k,show (k+1) * size=c.length+k * size by rw [hc,Nat.add_mul]; omega,List.take_append,List.take_of_length_le (l:=c) (by omega),show c.length+k * size - c.length=k * size by omega]
theorem zgf (hs:0 < size):∀ {css:List (List Value)} (_:∀ c ∈ css,c.length=size) (k:Nat),(css.drop k).flatten=css.flatten.drop (k * size)
 | [],_,k=>by simp
 | c::css,h,0=>by simp
 | c::css,h,k+1=>by
  have hc:c.length=size:=h c (by simp)
  rw [List.drop_succ_cons,List.flatten_cons,zgf hs (fun c hc=>h c (by simp [hc])) k,show (k+1) * size=c.length+k * size by rw [hc,Nat.add_mul]; omega,List.drop_append,List.drop_of_length_le (l:=c) (by omega),show c.length+k * size - c.length=k * size by omega,List.nil_append]

theorem zas.take (hs:0 < size) {w:World} {ao:Option Addr} {n cap:Nat} {xs:List X} (h:zas size R w (.slice ao n cap) xs) (k:Nat) (hk:k<=xs.length):zas size R w (.slice ao k cap) (xs.take k):=by
 obtain ⟨css,he,hr⟩:=h
 have hn:n=xs.length:=by
  obtain ⟨_,ao',cap',e,_⟩:=hr
  simp at e
  exact e.2.1
 subst hn
 refine ⟨css.take k,he.take k,?_⟩
 rw [zgn hs he.sizes,List.length_take,Nat.min_eq_left hk]
 exact hr.take k hk

theorem zas.drop (hs:0 < size) {w:World} {b off n cap:Nat} {xs:List X} (h:zas size R w (.slice (some ⟨b,off,none⟩) n cap) xs) (k:Nat) (hk:k<=xs.length):zas size R w (.slice (some ⟨b,off+k * size,none⟩) (xs.length - k) (cap - k)) (xs.drop k):=by
 obtain ⟨css,he,hl,ao',cap',h2,h3,h4,h0,h5⟩:=h
 simp only [Value.slice.injEq] at h2
 obtain ⟨rfl,rfl,rfl⟩:=h2
 refine ⟨css.drop k,he.drop k,?_⟩
 rw [zgf hs he.sizes,List.length_drop]
 refine ⟨by rw [List.length_drop,hl,Nat.sub_mul],_,_,rfl,by omega,by omega,(fun h=>by cases h),fun j u hj=>?_⟩
 rw [List.getElem?_drop] at hj
 obtain ⟨b',off',e',hc'⟩:=h5 _ u hj
 simp only [Option.some.injEq,Addr.mk.injEq,and_true] at e'
 obtain ⟨rfl,rfl⟩:=e'
 exact ⟨b,off+k * size,rfl,by rw [Nat.add_assoc]; exact hc'⟩

def zmY (base e size:Nat) (R:El X) (w:World) (v:Value) (xs:List X):Prop:=∃ css,zdq size R w css xs/\w.ownsRow base e size v xs.length css.flatten

theorem zmY.row {base e:Nat} {w:World} {v:Value} {xs:List X} (h:zmY base e size R w v xs):zas size R w v xs:=by
 obtain ⟨css,h1,h2⟩:=h
 exact ⟨css,h1,Row.of_owns h2⟩
theorem zmY.nil (base e:Nat) (w:World):zmY base e size R w (.slice none 0 0) []:=⟨[],zdq.nil w,World.ownsRow_nil w base e size⟩
theorem zmY.ext (hR:zgt R) {base e:Nat} {w w':World} {v:Value} {xs:List X} (h:zmY base e size R w v xs) (he:Ext w w'):zmY base e size R w' v xs:=by
 obtain ⟨css,h1,h2⟩:=h
 exact ⟨css,h1.ext hR he,zam h2 he⟩
theorem zmY.mono (hR:zgt R) (base e:Nat) (xs:List X):∀ v,zcJ (fun w=>zmY base e size R w v xs):=fun _ _ _ he h=>zmY.ext hR h he

end
end Go.Mk

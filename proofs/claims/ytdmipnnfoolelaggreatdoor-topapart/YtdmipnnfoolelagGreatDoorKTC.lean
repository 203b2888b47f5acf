/- zbb of the proof, merged: Read Read2 Mem2 Math7 Read3 Mem3 Math5 Math8. -/
import Derived.Test.YtdmipnnfoolelagGreatDoorKTA
import Derived.ProofKit
import Derived.SizedLaws
import Derived.Lib.SmallJoins
import Derived.Test.YtdmipnnfoolelagGreatDoorKTB
import Derived.Deep.Strs
import Derived.Laws.IdiomStrings

namespace Go.Mk
open Go Go.RowKit Go.ChangeShapes Go.WideShapes

theorem zp6 {Y:Type} (n:Nat) {Q:Nat->Y->Prop} (h:∀ i,i < n->∃ y,Q i y):∃ l:List Y,l.length=n/\∀ i y,l[i]?=some y->Q i y:=by
 induction n with
 | zero=>exact ⟨[],rfl,fun i y hy=>by simp at hy⟩
 | succ n ih =>
  obtain ⟨l,hl,hq⟩:=ih (fun i hi=>h i (by omega))
  obtain ⟨y,hy⟩:=h n (by omega)
  refine ⟨l++[y],by simp [hl],fun i z hz=>?_⟩
  by_cases hi:i < l.length
  ·rw [List.getElem?_append_left hi] at hz
   exact hq i z hz
  ·rw [List.getElem?_append_right (by omega)] at hz
   have:i - l.length=0:=by
    have:=(List.getElem?_eq_some_iff.1 hz).1
    simp at this
    omega
   rw [this] at hz
   simp at hz
   subst hz
   rw [show i=n by omega]
   exact hy

theorem zgL {Y:Type} (sz:Nat) (hsz:0 < sz):∀ (css:List (List Y)),(∀ c ∈ css,c.length=sz)->∀ j,css.flatten[j]?=(css[j / sz]?).bind (fun c=>c[j % sz]?)
 | [],_,j=>by simp
 | c::css,h,j=>by
  have hc:c.length=sz:=h c (by simp)
  rw [List.flatten_cons]
  by_cases hj:j < sz
  ·rw [List.getElem?_append_left (by omega),Nat.div_eq_of_lt hj,Nat.mod_eq_of_lt hj]
   rfl
  ·rw [List.getElem?_append_right (by omega),zgL sz hsz css (fun c hc=>h c (by simp [hc])),hc]
   obtain ⟨k,rfl⟩:∃ k,j=k+sz:=⟨j - sz,by omega⟩
   rw [Nat.add_sub_cancel,Nat.add_div_right _ hsz,Nat.add_mod_right]
   rfl
theorem zey {Y:Type} (sz:Nat):∀ (css:List (List Y)),(∀ c ∈ css,c.length=sz)->css.flatten.length=css.length * sz
 | [],_=>by simp
 | c::css,h=>by
  rw [List.flatten_cons,List.length_append,zey sz css (fun c hc=>h c (by simp [hc])),h c (by simp),List.length_cons,Nat.add_mul]
  omega

section
variable {P:Program} {H:Type} {enc:TypeId×Value->H} {W:World} {X:Type}

theorem zcD {w:World} {base:Nat} {a:Addr} {n:Nat} {cs:List Value} (h:w.cells? base a n=some cs):cs.length=n/\∀ i u,cs[i]?=some u->w.cell? (a.add i)=some u:=by
 obtain ⟨_,h2,h3⟩:=World.cells?_some h
 refine ⟨h2,fun i u hu=>?_⟩
 have hi:i < n:=by have:=(List.getElem?_eq_some_iff.1 hu).1; omega
 rw [h3 i hi]
 exact hu

theorem ztl (a:Addr) (i j:Nat) (h:a.spot=none):(a.add i).add j=⟨a.block,a.off+(i+j),none⟩:=by
 obtain ⟨b,off,spot⟩:=a
 simp only at h
 subst h
 rw [add_plain,add_plain,Nat.add_assoc]

theorem zjp {t e:TypeId} {sz:Nat} (hsz:0 < sz) {v:Value} {d:DataW H} {p:List MemPlace} (R:List Value->X->Prop) (ht:P.underlying t=some (.slice e)) (hc:P.cellsOf e=sz)
  (hR:∀ fuel cs z,DataW.trod enc P W 0 (fun _=>true) true fuel e cs=some z->cs.length=sz->∃ x,R cs x)
  {cs0:List Value} {fuel:Nat} (hcs0:cs0=[v]) (hf:DataW.trod enc P W 0 (fun _=>true) true fuel t cs0=some (d,p)) :
  ∃ (xs:List X) (css:List (List Value)),Row W sz v xs.length css.flatten/\css.length=xs.length/\(∀ (i:Nat) c x,css[i]?=some c->xs[i]?=some x->c.length=sz/\R c x) /\
   (xs=[]∨∃ elems spare,d=.slice elems spare/\elems.length=xs.length):=by
 subst hcs0
 rcases DataW.trod_slice ht hf with ⟨hcs,hx⟩ | ⟨a,len,cap,elems,rest,n,_,hcs,hx,_,hl,hm,hlen,hel,_,_⟩
 ·simp at hcs
  subst hcs
  exact ⟨[],[],Row.of_owns (World.ownsRow_nil W 0 0 sz),rfl,fun i c x hi=>by simp at hi,.inl rfl⟩
 ·simp at hcs
  subst hcs
  simp only [Prod.mk.injEq] at hx
  obtain ⟨rfl,rfl⟩:=hx
  rw [hc] at hel
  obtain ⟨l,hll,hq⟩:=zp6 (Y:=List Value×X) len (Q:=fun i y=>W.cells? 0 (a.add (i * sz)) sz=some y.1/\R y.1 y.2) (fun i hi=>by
   have h1:=hel i hi
   obtain ⟨z,hz⟩:∃ z,elems[i]?=some z:=⟨elems[i]'(by omega),by simp⟩
   rw [hz,Option.bind_eq_some_iff] at h1
   obtain ⟨cs,hcs,hz'⟩:=h1
   obtain ⟨x,hx⟩:=hR _ _ _ hz' (zcD hcs).1
   exact ⟨(cs,x),hcs,hx⟩)
  have hall:∀ c ∈ l.map (·.1),c.length=sz:=fun c hcm=>by
   obtain ⟨y,hy,rfl⟩:=List.mem_map.1 hcm
   obtain ⟨i,hi⟩:=List.mem_iff_getElem?.1 hy
   exact (zcD (hq i y hi).1).1
  refine ⟨l.map (·.2),l.map (·.1),⟨?_,some a,cap,by simp [hll],by simp [hll]; exact hl,hm,fun h=>(by cases h),fun j u hj=>?_⟩,by simp,fun i c x hi hx=>?_,.inr ⟨_,_,rfl,by simp [hll,hlen]⟩⟩
  ·rw [zey sz _ hall]; simp
  ·rw [zgL sz hsz _ hall,Option.bind_eq_some_iff] at hj
   obtain ⟨c,hci,hcj⟩:=hj
   rw [List.getElem?_map] at hci
   cases hy:l[j / sz]? with
   | none=>rw [hy] at hci; cases hci
   | some y =>
    rw [hy] at hci
    simp at hci
    subst hci
    have hcell:=(zcD (hq _ _ hy).1).2 _ _ hcj
    have hspot:a.spot=none:=by
     by_cases h0:j / sz * sz=0
     ·rw [h0] at hcell
      by_cases h1:j % sz=0
      ·rw [h1] at hcell
       have:=World.cell?_spot hcell
       simpa [Addr.add] using this
      ·have h2:=(zcD (hq _ _ hy).1).2 0
       have h3:0 < y.1.length:=by have:=(List.getElem?_eq_some_iff.1 hcj).1; omega
       have h4:=h2 _ (List.getElem?_eq_getElem h3)
       rw [h0] at h4
       have:=World.cell?_spot h4
       simpa [Addr.add] using this
     ·-- the first element's first cell
      have hl0:0 < l.length:=Nat.lt_of_le_of_lt (Nat.zero_le _) (List.getElem?_eq_some_iff.1 hy).1
      have h5:=hq 0 _ (List.getElem?_eq_getElem hl0)
      have h6:=zcD h5.1
      have h7:=h6.2 0 _ (List.getElem?_eq_getElem (by omega))
      have:=World.cell?_spot h7
      simpa [Addr.add] using this
    rw [ztl a _ _ hspot,Nat.div_add_mod' j sz] at hcell
    obtain ⟨b,off,spot⟩:=a
    simp only at hspot
    subst hspot
    exact ⟨b,off,rfl,hcell⟩
  ·rw [List.getElem?_map] at hi hx
   cases hy:l[i]? with
   | none=>rw [hy] at hi; cases hi
   | some y =>
    rw [hy] at hi hx
    simp at hi hx
    subst hi hx
    exact ⟨(zcD (hq _ _ hy).1).1,(hq _ _ hy).2⟩

theorem ziH {f:X->List Value}:∀ {css:List (List Value)} {xs:List X},css.length=xs.length->(∀ (i:Nat) c x,css[i]?=some c->xs[i]?=some x->c=f x)->css.flatten=xs.flatMap f
 | [],[],_,_=>rfl
 | [],_::_,h,_=>by cases h
 | _::_,[],h,_=>by cases h
 | c::css,x::xs,h,hq=>by
  rw [List.flatten_cons,List.flatMap_cons,hq 0 c x rfl rfl,ziH (by simpa using h) (fun i c x hc hx=>hq (i+1) c x hc hx)]

theorem zp3 {e:TypeId} {f0 f1:Field} {fuel:Nat} {cs:List Value} {z:DataW H×List MemPlace} (he:P.underlying e=some (.struct #[f0,f1])) (hc:P.cellsOf e=2)
  (h0:P.underlying f0.type=some (.int .i64)) (h1:P.underlying f1.type=some (.int .i64)) (o0:f0.offset=0) (o1:f1.offset=1) (c0:P.cellsOf f0.type=1) (c1:P.cellsOf f1.type=1)
  (hz:DataW.trod enc P W 0 (fun _=>true) true fuel e cs=some z):∃ x:Int×Int,cs=[I x.1,I x.2]:=by
 obtain ⟨y0,y1,m,hx,hcl,t0,t1⟩:=trod_struct2 he hz
 rw [hc] at hcl
 obtain ⟨u0,u1,rfl⟩:∃ u0 u1,cs=[u0,u1]:=by
  match cs,hcl with
  | [u0,u1],_=>exact ⟨u0,u1,rfl⟩
 rw [o0,c0] at t0
 rw [o1,c1] at t1
 obtain ⟨x,e0,_⟩:=DataW.trod_int h0 t0
 obtain ⟨y,e1,_⟩:=DataW.trod_int h1 t1
 simp at e0 e1
 exact ⟨(x,y),by rw [e0,e1]⟩

theorem zeJ {t e:TypeId} {f0 f1:Field} {v:Value} {d:DataW H} {p:List MemPlace} (ht:P.underlying t=some (.slice e)) (he:P.underlying e=some (.struct #[f0,f1])) (hc:P.cellsOf e=2)
  (h0:P.underlying f0.type=some (.int .i64)) (h1:P.underlying f1.type=some (.int .i64)) (o0:f0.offset=0) (o1:f1.offset=1) (c0:P.cellsOf f0.type=1) (c1:P.cellsOf f1.type=1)
  {b0:Nat} (hv:Value.okWide P W .any b0 t v) (h:DataW.Trod enc P W 0 (fun _=>true) true t v d p) :
  ∃ l:List (Int×Int),zar W v l/\(l=[]∨∃ elems spare,d=.slice elems spare/\elems.length=l.length):=by
 obtain ⟨a0,len,cap,rfl⟩:=okWide_slice ht hv
 obtain ⟨fuel,hf⟩:=h
 obtain ⟨xs,css,hr,hl,hq,hs⟩:=zjp (X:=Int×Int) (by decide) (fun cs x=>cs=[I x.1,I x.2]) ht hc (fun fuel cs z hz _=>zp3 he hc h0 h1 o0 o1 c0 c1 hz) rfl hf
 refine ⟨xs,?_,hs⟩
 rw [ziH (f:=fun x=>[I x.1,I x.2]) hl (fun i c x hc hx=>(hq i c x hc hx).2)] at hr
 exact hr

end
open Go Go.RowKit Go.ChangeShapes Go.WideShapes

section
variable {P:Program} {H:Type} {enc:TypeId×Value->H} {W:World} {X:Type}

theorem zqq {e:TypeId} {f0 f1 f2 f3:Field} {fuel:Nat} {cs:List Value} {z:DataW H×List MemPlace} (he:P.underlying e=some (.struct #[f0,f1,f2,f3])) (hc:P.cellsOf e=4)
  (h0:P.underlying f0.type=some (.int .i64)) (h1:P.underlying f1.type=some (.int .i64)) (h2:P.underlying f2.type=some (.int .i64)) (h3:P.underlying f3.type=some (.int .i64))
  (o0:f0.offset=0) (o1:f1.offset=1) (o2:f2.offset=2) (o3:f3.offset=3) (c0:P.cellsOf f0.type=1) (c1:P.cellsOf f1.type=1) (c2:P.cellsOf f2.type=1) (c3:P.cellsOf f3.type=1)
  (hz:DataW.trod enc P W 0 (fun _=>true) true fuel e cs=some z):∃ c:Cl,cs=[I c.kind,I c.name,I c.other,I c.n]:=by
 obtain ⟨y0,y1,y2,y3,m,hx,hcl,t0,t1,t2,t3⟩:=Go.Joins.trod_struct4 he hz
 rw [hc] at hcl
 obtain ⟨u0,u1,u2,u3,rfl⟩:∃ u0 u1 u2 u3,cs=[u0,u1,u2,u3]:=by
  match cs,hcl with
  | [u0,u1,u2,u3],_=>exact ⟨u0,u1,u2,u3,rfl⟩
 rw [o0,c0] at t0
 rw [o1,c1] at t1
 rw [o2,c2] at t2
 rw [o3,c3] at t3
 obtain ⟨x0,e0,_⟩:=DataW.trod_int h0 t0
 obtain ⟨x1,e1,_⟩:=DataW.trod_int h1 t1
 obtain ⟨x2,e2,_⟩:=DataW.trod_int h2 t2
 obtain ⟨x3,e3,_⟩:=DataW.trod_int h3 t3
 simp at e0 e1 e2 e3
 exact ⟨⟨x0,x1,x2,x3⟩,by rw [e0,e1,e2,e3]⟩

end
open Go Go.RowKit

abbrev U (b:UInt8):Value:=.int .u8 (b.toNat:Int)

def za4 (w:World) (v:Value) (l:List UInt8):Prop:=Row w 1 v l.length (l.map U)
theorem za4.ext {w w':World} {v:Value} {l:List UInt8} (h:za4 w v l) (he:Ext w w'):za4 w' v l:=Row.ext h he
theorem za4.form {w:World} {v:Value} {l:List UInt8} (h:za4 w v l):∃ ao cap,v=.slice ao l.length cap/\l.length<=cap/\cap<=maxLen /\
  ∀ k,k < l.length->∃ b off,ao=some ⟨b,off,none⟩/\w.cell? ⟨b,off+k,none⟩=some (U (l.getD k 0)):=by
 obtain ⟨_,ao,cap,h2,h3,h4,_,h5⟩:=h
 refine ⟨ao,cap,h2,h3,h4,fun k hk=>?_⟩
 exact h5 k _ (by simp [hk])
theorem zmI (l:List UInt8):∀ u ∈ l.map U,u.oneCell'=true:=by
 intro u hu
 obtain ⟨x,_,rfl⟩:=List.mem_map.1 hu
 rfl
theorem zgw {w:World} {base e n:Nat} {v:Value} {l:List UInt8} (h:w.ownsRow base e 1 v n (l.map U)):za4 w v l:=by
 have hl:l.length=n:=by simpa using h.1
 subst hl
 exact Row.of_owns h
theorem zdl (w:World):za4 w (.slice none 0 0) []:=zgw (World.ownsRow_nil w 0 0 1)
theorem zqe {w:World} (e:TypeId) (l:List UInt8) (cs:Array Value) (n:Nat) (hc:cs.toList=l.map U) (hn:l.length=n) (hm:n<=maxLen):za4 (w.alloc (.cells cs e)) (.slice (some ⟨w.heap.size,0,none⟩) n n) l:=by
 subst hn
 have:=World.ownsRow_lit (base:=0) (e:=e) (size:=1) w cs l.length (Nat.zero_le _) hm (by rw [<- Array.length_toList,hc]; simp)
 rw [hc] at this
 exact zgw this

theorem za4.drop {w:World} {l:List UInt8} {b off n cap:Nat} (h:za4 w (.slice (some ⟨b,off,none⟩) n cap) l) (k:Nat) (hk:k<=l.length):za4 w (.slice (some ⟨b,off+k,none⟩) (l.length - k) (cap - k)) (l.drop k):=by
 obtain ⟨hl,ao',cap',h2,h3,h4,h0,h5⟩:=h
 simp only [Value.slice.injEq] at h2
 obtain ⟨rfl,rfl,rfl⟩:=h2
 have hd:(l.drop k).length=l.length - k:=List.length_drop
 unfold za4
 rw [hd]
 refine ⟨by simp,_,_,rfl,by omega,by omega,(fun h=>by cases h),fun j u hj=>?_⟩
 rw [List.getElem?_map,List.getElem?_drop,<- List.getElem?_map] at hj
 obtain ⟨b',off',e',hc'⟩:=h5 (k+j) u hj
 simp only [Option.some.injEq,Addr.mk.injEq,and_true] at e'
 obtain ⟨rfl,rfl⟩:=e'
 exact ⟨b,off+k,rfl,by rw [Nat.add_assoc]; exact hc'⟩

def zpt (base:Nat) (w:World) (v:Value) (l:List UInt8):Prop:=∃ b off n cap,v=.slice (some ⟨b,off,none⟩) n cap/\base<=b/\za4 w v l
theorem zpt.bytes {base:Nat} {w:World} {v:Value} {l:List UInt8} (h:zpt base w v l):za4 w v l:=by
 obtain ⟨_,_,_,_,_,_,h⟩:=h
 exact h
open Go Go.RowKit

structure An where
 client:Int
 token:Int
 reply:Rp

def zbI (r:Rq):Int:=if ¬ (0<=r.client/\r.client < 3/\0<=r.token/\r.token < 8) then 3 else wrongCl r.call
def zbp (a:An):Int :=
 if ¬ (0<=a.client/\a.client < 3/\0<=a.token/\a.token < 8)∨a.reply.err < 0∨12 < a.reply.err∨1073741824 < a.reply.n∨a.reply.n < -1073741824∨(0 < a.reply.err/\a.reply.n≠0) then 3 else 0

def byteOf (n:Int):UInt8:=UInt8.ofNat (n % 256).toNat
def u32 (n:Int):Nat:=(n % 4294967296).toNat
def zeQ (n:Int):List UInt8:=[UInt8.ofNat (u32 n / 16777216),UInt8.ofNat (u32 n / 65536 % 256),UInt8.ofNat (u32 n / 256 % 256),UInt8.ofNat (u32 n % 256)]
def znp (u:Nat):Int:=if u < 2147483648 then (u:Int) else (u:Int) - 4294967296
def numB (b:List UInt8):Int:=znp ((((b.getD 0 0).toNat * 256+(b.getD 1 0).toNat) * 256+(b.getD 2 0).toNat) * 256+(b.getD 3 0).toNat)

theorem zbA {n:Int} (h0:0<=n) (h1:n<=255):((byteOf n).toNat:Int)=n:=by
 unfold byteOf
 rw [UInt8.toNat_ofNat']
 omega
theorem zuu (n:Int):u32 n < 4294967296:=by unfold u32; omega
theorem zql {n:Int} (h0:-2147483648<=n) (h1:n < 2147483648):znp (u32 n)=n:=by
 unfold znp u32
 split <;> omega
theorem zks {n:Int} (h0:-2147483648<=n) (h1:n < 2147483648):numB (zeQ n)=n:=by
 have hu:=zuu n
 unfold numB zeQ
 simp only [List.getD_cons_zero,List.getD_cons_succ,UInt8.toNat_ofNat']
 have e:(((u32 n / 16777216 % 256) * 256+u32 n / 65536 % 256 % 256) * 256+u32 n / 256 % 256 % 256) * 256+u32 n % 256 % 256=u32 n:=by omega
 rw [show (2 ^ 8:Nat)=256 from rfl,e,zql h0 h1]
def zeroRq:Rq:=⟨0,0,⟨0,0,0,0⟩⟩
def zeroAn:An:=⟨0,0,⟨0,0⟩⟩
def zbv (r:Rq):List UInt8:=[113,byteOf r.client,byteOf r.token,byteOf r.call.kind,byteOf r.call.name,byteOf r.call.other]++zeQ r.call.n
def zbF (a:An):List UInt8:=[97,byteOf a.client,byteOf a.token,byteOf a.reply.err]++zeQ a.reply.n
def zrp (b:List UInt8):Rq:=⟨(b.getD 1 0).toNat,(b.getD 2 0).toNat,⟨(b.getD 3 0).toNat,(b.getD 4 0).toNat,(b.getD 5 0).toNat,numB (b.drop 6)⟩⟩
def zrm (b:List UInt8):An:=⟨(b.getD 1 0).toNat,(b.getD 2 0).toNat,⟨(b.getD 3 0).toNat,numB (b.drop 4)⟩⟩
def readRq (b:List UInt8):Rq×Int :=
 if b.length≠10∨b.getD 0 0≠113 then (zeroRq,2) else if zbI (zrp b)≠0 then (zeroRq,zbI (zrp b)) else (zrp b,0)
def readAn (b:List UInt8):An×Int :=
 if b.length≠8∨b.getD 0 0≠97 then (zeroAn,2) else if zbp (zrm b)≠0 then (zeroAn,zbp (zrm b)) else (zrm b,0)

theorem zeU {r:Rq} (h:zbI r=0):(0<=r.client/\r.client < 3/\0<=r.token/\r.token < 8)/\wrongCl r.call=0:=by
 unfold zbI at h
 split at h
 ·exact absurd h (by decide)
 ·rename_i hw
  exact ⟨by omega,h⟩
theorem zgx {c:Cl} (h:wrongCl c=0):(0<=c.kind/\c.kind<=255)/\(0<=c.name/\c.name<=255)/\(0<=c.other/\c.other<=255)/\(-1073741824<=c.n/\c.n<=1073741824):=by
 unfold wrongCl at h
 repeat' split at h
 all_goals first | exact absurd h (by decide) | skip
 refine ⟨?_,?_,?_,?_⟩ <;> omega
theorem zgz {a:An} (h:zbp a=0):(0<=a.client/\a.client < 3/\0<=a.token/\a.token < 8)/\(0<=a.reply.err/\a.reply.err<=12)/\(-1073741824<=a.reply.n/\a.reply.n<=1073741824)/\(0 < a.reply.err->a.reply.n=0):=by
 unfold zbp at h
 split at h
 ·exact absurd h (by decide)
 ·rename_i hw
  omega
theorem zsb {r:Rq} (h:zbI r=0):zrp (zbv r)=r:=by
 obtain ⟨hw,hc⟩:=zeU h
 obtain ⟨h1,h2,h3,h4⟩:=zgx hc
 obtain ⟨cl,tk,⟨k,a,o,n⟩⟩:=r
 simp only at *
 have e:zrp (zbv ⟨cl,tk,⟨k,a,o,n⟩⟩)=⟨((byteOf cl).toNat:Int),((byteOf tk).toNat:Int),⟨((byteOf k).toNat:Int),((byteOf a).toNat:Int),((byteOf o).toNat:Int),numB (zeQ n)⟩⟩:=rfl
 rw [e,zbA (by omega) (by omega),zbA (by omega) (by omega),zbA h1.1 h1.2,zbA h2.1 h2.2,zbA h3.1 h3.2,zks (by omega) (by omega)]
theorem zrE {a:An} (h:zbp a=0):zrm (zbF a)=a:=by
 obtain ⟨hw,h1,h2,_⟩:=zgz h
 obtain ⟨cl,tk,⟨e0,n⟩⟩:=a
 simp only at *
 have e:zrm (zbF ⟨cl,tk,⟨e0,n⟩⟩)=⟨((byteOf cl).toNat:Int),((byteOf tk).toNat:Int),⟨((byteOf e0).toNat:Int),numB (zeQ n)⟩⟩:=rfl
 rw [e,zbA (by omega) (by omega),zbA (by omega) (by omega),zbA (by omega) (by omega),zks (by omega) (by omega)]
theorem zo0 {r:Rq} (h:zbI r=0):readRq (zbv r)=(r,0):=by
 have hl:(zbv r).length=10:=rfl
 have h0:(zbv r).getD 0 0=113:=rfl
 unfold readRq
 rw [if_neg (by rw [hl,h0]; simp),zsb h,if_neg (by simp [h])]
theorem zja {a:An} (h:zbp a=0):readAn (zbF a)=(a,0):=by
 have hl:(zbF a).length=8:=rfl
 have h0:(zbF a).getD 0 0=97:=rfl
 unfold readAn
 rw [if_neg (by rw [hl,h0]; simp),zrE h,if_neg (by simp [h])]
open Go Go.RowKit Go.ChangeShapes Go.WideShapes

section
variable {P:Program} {H:Type} {enc:TypeId×Value->H} {W:World} {X:Type}

end
open Go Go.RowKit

abbrev El (X:Type):=World->List Value->X->Prop
def ze0 {X:Type} (R:El X):Prop:=∀ w w' c x,Ext w w'->R w c x->R w' c x
def zu6 {X:Type} (R:El X):Prop:=∀ w c x,R w c x->∀ u ∈ c,u.oneCell'=true

section
variable {X:Type} {size:Nat} {R:El X}

def zc8 (size:Nat) (R:El X) (w:World) (css:List (List Value)) (xs:List X):Prop :=
 css.length=xs.length/\∀ (i:Nat) c x,css[i]?=some c->xs[i]?=some x->c.length=size/\R w c x

theorem zc8.ext (hR:ze0 R) {w w':World} {css:List (List Value)} {xs:List X} (h:zc8 size R w css xs) (he:Ext w w'):zc8 size R w' css xs :=
 ⟨h.1,fun i c x hc hx=>⟨(h.2 i c x hc hx).1,hR _ _ _ _ he (h.2 i c x hc hx).2⟩⟩
theorem zc8.nil (w:World):zc8 size R w [] []:=⟨rfl,fun i c x hc=>by simp at hc⟩
theorem zc8.snoc {w:World} {css:List (List Value)} {xs:List X} {c:List Value} {x:X} (h:zc8 size R w css xs) (hc:c.length=size) (hr:R w c x):zc8 size R w (css++[c]) (xs++[x]):=by
 refine ⟨by simp [h.1],fun i d y hd hy=>?_⟩
 by_cases hi:i < css.length
 ·rw [List.getElem?_append_left hi] at hd
  rw [List.getElem?_append_left (by rw [<- h.1]; exact hi)] at hy
  exact h.2 i d y hd hy
 ·have hlt:=(List.getElem?_eq_some_iff.1 hd).1
  simp at hlt
  have hi2:i=css.length:=by omega
  subst hi2
  rw [List.getElem?_append_right (Nat.le_refl _)] at hd
  rw [h.1,List.getElem?_append_right (Nat.le_refl _)] at hy
  simp at hd hy
  subst hd hy
  exact ⟨hc,hr⟩
theorem zc8.append {w:World} {css dss:List (List Value)} {xs ys:List X} (h:zc8 size R w css xs) (k:zc8 size R w dss ys):zc8 size R w (css++dss) (xs++ys):=by
 refine ⟨by simp [h.1,k.1],fun i d y hd hy=>?_⟩
 by_cases hi:i < css.length
 ·rw [List.getElem?_append_left hi] at hd
  rw [List.getElem?_append_left (by rw [<- h.1]; exact hi)] at hy
  exact h.2 i d y hd hy
 ·rw [List.getElem?_append_right (by omega)] at hd
  rw [List.getElem?_append_right (by rw [<- h.1]; omega),<- h.1] at hy
  exact k.2 _ d y hd hy
theorem zc8.take {w:World} {css:List (List Value)} {xs:List X} (h:zc8 size R w css xs) (k:Nat):zc8 size R w (css.take k) (xs.take k):=by
 refine ⟨by simp [h.1],fun i d y hd hy=>?_⟩
 rw [List.getElem?_take] at hd hy
 split at hd
 ·rw [if_pos (by assumption)] at hy; exact h.2 i d y hd hy
 ·cases hd
theorem zc8.drop {w:World} {css:List (List Value)} {xs:List X} (h:zc8 size R w css xs) (k:Nat):zc8 size R w (css.drop k) (xs.drop k):=by
 refine ⟨by simp [h.1],fun i d y hd hy=>?_⟩
 rw [List.getElem?_drop] at hd hy
 exact h.2 _ d y hd hy
theorem zc8.set {w:World} {css:List (List Value)} {xs:List X} (h:zc8 size R w css xs) (k:Nat) {c:List Value} {x:X} (hc:c.length=size) (hr:R w c x):zc8 size R w (css.set k c) (xs.set k x):=by
 refine ⟨by simp [h.1],fun i d y hd hy=>?_⟩
 rw [List.getElem?_set] at hd hy
 split at hd
 ·rename_i hki
  split at hd
  ·rw [if_pos hki,if_pos (by rw [<- h.1]; assumption)] at hy
   simp at hd hy
   subst hd hy
   exact ⟨hc,hr⟩
  ·cases hd
 ·rw [if_neg (by assumption)] at hy
  exact h.2 i d y hd hy
theorem zc8.sizes {w:World} {css:List (List Value)} {xs:List X} (h:zc8 size R w css xs):∀ c ∈ css,c.length=size:=fun c hc=>by
 obtain ⟨i,hi⟩:=List.mem_iff_getElem?.1 hc
 have hlt:=(List.getElem?_eq_some_iff.1 hi).1
 have hx:xs[i]?=some (xs[i]'(by rw [<- h.1]; exact hlt)):=List.getElem?_eq_getElem _
 exact (h.2 i c _ hi hx).1
theorem zc8.ones (hO:zu6 R) {w:World} {css:List (List Value)} {xs:List X} (h:zc8 size R w css xs):∀ u ∈ css.flatten,u.oneCell'=true:=fun u hu=>by
 obtain ⟨c,hc,huc⟩:=List.mem_flatten.1 hu
 obtain ⟨i,hi⟩:=List.mem_iff_getElem?.1 hc
 have hlt:=(List.getElem?_eq_some_iff.1 hi).1
 have hx:xs[i]?=some (xs[i]'(by rw [<- h.1]; exact hlt)):=List.getElem?_eq_getElem _
 exact hO _ _ _ (h.2 i c _ hi hx).2 u huc

def zaj (size:Nat) (R:El X) (w:World) (v:Value) (xs:List X):Prop:=∃ css,zc8 size R w css xs/\Row w size v xs.length css.flatten

theorem zaj.ext (hR:ze0 R) {w w':World} {v:Value} {xs:List X} (h:zaj size R w v xs) (he:Ext w w'):zaj size R w' v xs:=by
 obtain ⟨css,h1,h2⟩:=h
 exact ⟨css,h1.ext hR he,h2.ext he⟩
theorem zaj.mono (hR:ze0 R) (xs:List X):∀ v,zb9 (fun w=>zaj size R w v xs):=fun _ _ _ he h=>zaj.ext hR h he
theorem zaj.nil (w:World):zaj size R w (.slice none 0 0) []:=⟨[],zc8.nil w,Row.of_owns (World.ownsRow_nil w 0 0 size)⟩

theorem zcW (hs:0 < size) {css:List (List Value)} (h:∀ c ∈ css,c.length=size) {k j:Nat} {c:List Value} {u:Value} (hc:css[k]?=some c) (hj:c[j]?=some u):css.flatten[k * size+j]?=some u:=by
 have hjl:j < size:=by rw [<- h c (List.mem_of_getElem? hc)]; exact (List.getElem?_eq_some_iff.1 hj).1
 rw [zgL size hs css h]
 rw [show (k * size+j) / size=k by rw [Nat.mul_comm,Nat.mul_add_div hs,Nat.div_eq_of_lt hjl,Nat.add_zero],show (k * size+j) % size=j by rw [Nat.mul_comm,Nat.mul_add_mod,Nat.mod_eq_of_lt hjl],hc]
 exact hj

theorem zaj.form (hs:0 < size) {w:World} {v:Value} {xs:List X} (h:zaj size R w v xs):∃ ao cap,v=.slice ao xs.length cap/\xs.length<=cap/\cap<=maxLen/\(ao=none->cap=0) /\
  ∀ k x,xs[k]?=some x->∃ b off c,ao=some ⟨b,off,none⟩/\c.length=size/\R w c x/\∀ j u,c[j]?=some u->w.cell? ⟨b,off+(k * size+j),none⟩=some u:=by
 obtain ⟨css,he,hl,ao,cap,h2,h3,h4,h0,h5⟩:=h
 refine ⟨ao,cap,h2,h3,h4,h0,fun k x hx=>?_⟩
 have hk:k < css.length:=by rw [he.1]; exact (List.getElem?_eq_some_iff.1 hx).1
 have hc:css[k]?=some css[k]:=List.getElem?_eq_getElem hk
 obtain ⟨c1,c2⟩:=he.2 k _ x hc hx
 have hall:=he.sizes
 have h0':∃ u,css[k][0]?=some u:=⟨css[k][0]'(by rw [c1]; exact hs),List.getElem?_eq_getElem _⟩
 obtain ⟨u0,hu0⟩:=h0'
 obtain ⟨b,off,e,_⟩:=h5 _ _ (zcW hs hall hc hu0)
 refine ⟨b,off,css[k],e,c1,c2,fun j u hj=>?_⟩
 obtain ⟨b',off',e',hc'⟩:=h5 _ _ (zcW hs hall hc hj)
 rw [e] at e'
 simp only [Option.some.injEq,Addr.mk.injEq,and_true] at e'
 obtain ⟨rfl,rfl⟩:=e'
 exact hc'

theorem zfv (hs:0 < size):∀ {css:List (List Value)} (_:∀ c ∈ css,c.length=size) (k:Nat),(css.take k).flatten=css.flatten.take (k * size)
 | [],_,k=>by simp
 | c::css,h,0=>by simp
 | c::css,h,k+1=>by
  have hc:c.length=size:=h c (by simp)
  rw [List.take_succ_cons,List.flatten_cons,List.flatten_cons,zfv hs (fun c hc=>h c (by simp [hc])) k,show (k+1) * size=c.length+k * size by rw [hc,Nat.add_mul]; omega,List.take_append,List.take_of_length_le (l:=c) (by omega),show c.length+k * size - c.length=k * size by omega]
theorem zfu (hs:0 < size):∀ {css:List (List Value)} (_:∀ c ∈ css,c.length=size) (k:Nat),(css.drop k).flatten=css.flatten.drop (k * size)
 | [],_,k=>by simp
 | c::css,h,0=>by simp
 | c::css,h,k+1=>by
  have hc:c.length=size:=h c (by simp)
  rw [List.drop_succ_cons,List.flatten_cons,zfu hs (fun c hc=>h c (by simp [hc])) k,show (k+1) * size=c.length+k * size by rw [hc,Nat.add_mul]; omega,List.drop_append,List.drop_of_length_le (l:=c) (by omega),show c.length+k * size - c.length=k * size by omega,List.nil_append]

theorem zaj.take (hs:0 < size) {w:World} {ao:Option Addr} {n cap:Nat} {xs:List X} (h:zaj size R w (.slice ao n cap) xs) (k:Nat) (hk:k<=xs.length):zaj size R w (.slice ao k cap) (xs.take k):=by
 obtain ⟨css,he,hr⟩:=h
 have hn:n=xs.length:=by
  obtain ⟨_,ao',cap',e,_⟩:=hr
  simp at e
  exact e.2.1
 subst hn
 refine ⟨css.take k,he.take k,?_⟩
 rw [zfv hs he.sizes,List.length_take,Nat.min_eq_left hk]
 exact hr.take k hk

theorem zaj.drop (hs:0 < size) {w:World} {b off n cap:Nat} {xs:List X} (h:zaj size R w (.slice (some ⟨b,off,none⟩) n cap) xs) (k:Nat) (hk:k<=xs.length):zaj size R w (.slice (some ⟨b,off+k * size,none⟩) (xs.length - k) (cap - k)) (xs.drop k):=by
 obtain ⟨css,he,hl,ao',cap',h2,h3,h4,h0,h5⟩:=h
 simp only [Value.slice.injEq] at h2
 obtain ⟨rfl,rfl,rfl⟩:=h2
 refine ⟨css.drop k,he.drop k,?_⟩
 rw [zfu hs he.sizes,List.length_drop]
 refine ⟨by rw [List.length_drop,hl,Nat.sub_mul],_,_,rfl,by omega,by omega,(fun h=>by cases h),fun j u hj=>?_⟩
 rw [List.getElem?_drop] at hj
 obtain ⟨b',off',e',hc'⟩:=h5 _ u hj
 simp only [Option.some.injEq,Addr.mk.injEq,and_true] at e'
 obtain ⟨rfl,rfl⟩:=e'
 exact ⟨b,off+k * size,rfl,by rw [Nat.add_assoc]; exact hc'⟩

def zmZ (base e size:Nat) (R:El X) (w:World) (v:Value) (xs:List X):Prop:=∃ css,zc8 size R w css xs/\w.ownsRow base e size v xs.length css.flatten

theorem zmZ.row {base e:Nat} {w:World} {v:Value} {xs:List X} (h:zmZ base e size R w v xs):zaj size R w v xs:=by
 obtain ⟨css,h1,h2⟩:=h
 exact ⟨css,h1,Row.of_owns h2⟩
theorem zmZ.nil (base e:Nat) (w:World):zmZ base e size R w (.slice none 0 0) []:=⟨[],zc8.nil w,World.ownsRow_nil w base e size⟩
theorem zmZ.ext (hR:ze0 R) {base e:Nat} {w w':World} {v:Value} {xs:List X} (h:zmZ base e size R w v xs) (he:Ext w w'):zmZ base e size R w' v xs:=by
 obtain ⟨css,h1,h2⟩:=h
 exact ⟨css,h1.ext hR he,zai h2 he⟩
theorem zmZ.mono (hR:ze0 R) (base e:Nat) (xs:List X):∀ v,zb9 (fun w=>zmZ base e size R w v xs):=fun _ _ _ he h=>zmZ.ext hR h he

end
open Go Go.RowKit

theorem zbT (xs:List Int) (n i:Nat) (h:i < n):(zaX xs n).getD i (0,0)=(xs.getD (1+2 * i) 0,xs.getD (1+2 * i+1) 0):=by
 simp [zaX,List.getD_eq_getElem?_getD,h]

/-! ### Right cells are cells whose names are right -/

theorem zkF (xs:List Int) (name:Int):∀ n i,findIn xs name n i < 0↔∀ j,i<=j->j < i+n->xs.getD (1+2 * j) 0≠name
 | 0,i=>by
  constructor
  ·intro _ j h1 h2; omega
  ·intro _; simp [findIn]
 | n+1,i=>by
  rw [findIn]
  by_cases h:xs.getD (1+2 * i) 0=name
  ·rw [if_pos h]
   constructor
   ·intro h2; omega
   ·intro h2; exact absurd h (h2 i (Nat.le_refl _) (by omega))
  ·rw [if_neg h,zkF xs name n (i+1)]
   constructor
   ·intro h2 j h3 h4
    by_cases e:j=i
    ·rw [e]; exact h
    ·exact h2 j (by omega) (by omega)
   ·intro h2 j h3 h4
    exact h2 j (by omega) (by omega)
theorem zhl (xs:List Int):∀ n i,ziK xs n i=0↔∀ j,i<=j->j < i+n->zgl xs j=0
 | 0,i=>by
  constructor
  ·intro _ j h1 h2; omega
  ·intro _; rfl
 | n+1,i=>by
  rw [ziK]
  by_cases h:zgl xs i=0
  ·rw [if_pos h,zhl xs n (i+1)]
   constructor
   ·intro h2 j h3 h4
    by_cases e:j=i
    ·rw [e]; exact h
    ·exact h2 j (by omega) (by omega)
   ·intro h2 j h3 h4
    exact h2 j (by omega) (by omega)
  ·rw [if_neg h]
   constructor
   ·intro h2; exact absurd h2 h
   ·intro h2; exact absurd (h2 i (Nat.le_refl _) (by omega)) h
theorem zfk (xs:List Int) (i:Nat):zgl xs i=0↔(1<=xs.getD (1+2 * i) 0/\xs.getD (1+2 * i) 0<=255/\-1073741824<=xs.getD (1+2 * i+1) 0/\xs.getD (1+2 * i+1) 0<=1073741824)/\∀ j,j < i->xs.getD (1+2 * j) 0≠xs.getD (1+2 * i) 0:=by
 unfold zgl
 rw [show 2+2 * i=1+2 * i+1 by omega]
 have hf:=zkF xs (xs.getD (1+2 * i) 0) i 0
 by_cases h1:¬ (1<=xs.getD (1+2 * i) 0/\xs.getD (1+2 * i) 0<=255)∨¬ (-1073741824<=xs.getD (1+2 * i+1) 0/\xs.getD (1+2 * i+1) 0<=1073741824)
 ·rw [if_pos h1]
  constructor
  ·intro h; cases h
  ·intro h; omega
 ·rw [if_neg h1]
  by_cases h2:0<=findIn xs (xs.getD (1+2 * i) 0) i 0
  ·rw [if_pos h2]
   constructor
   ·intro h; cases h
   ·intro h
    have:=hf.2 (fun j _ h4=>h.2 j (by omega))
    omega
  ·rw [if_neg h2]
   constructor
   ·intro _
    exact ⟨by omega,fun j hj=>hf.1 (by omega) j (Nat.zero_le _) (by omega)⟩
   ·intro _; rfl
theorem zgf (xs:List Int):zd8 xs=0↔xs.length=11/\0<=xs.getD 0 0/\xs.getD 0 0<=5/\Okn (zaX xs (xs.getD 0 0).toNat):=by
 unfold zd8
 by_cases h1:xs.length≠11
 ·rw [if_pos h1]
  constructor
  ·intro h; cases h
  ·intro h; exact absurd h.1 h1
 rw [if_neg h1]
 by_cases h2:¬ (0<=xs.getD 0 0/\xs.getD 0 0<=5)
 ·rw [if_pos h2]
  constructor
  ·intro h; cases h
  ·intro h; exact absurd ⟨h.2.1,h.2.2.1⟩ h2
 rw [if_neg h2,zhl]
 have hx:0<=xs.getD 0 0/\xs.getD 0 0<=5:=by simpa using h2
 constructor
 ·intro h
  refine ⟨by simpa using h1,hx.1,hx.2,ziT (by rw [zaU]; omega) (fun i hi=>?_) (fun i j hij hj=>?_)⟩
  ·rw [zaU] at hi
   rw [zbT _ _ _ hi]
   exact ((zfk xs i).1 (h i (Nat.zero_le _) (by omega))).1
  ·rw [zaU] at hj
   rw [zbT _ _ _ hj,zbT _ _ _ (by omega)]
   exact ((zfk xs j).1 (h j (Nat.zero_le _) (by omega))).2 i hij
 ·rintro ⟨_,_,_,hok⟩ j _ hj
  have hjl:j < (xs.getD 0 0).toNat:=by omega
  rw [zfk]
  have ha:=hok.at (i:=j) (by rw [zaU]; exact hjl)
  rw [zbT _ _ _ hjl] at ha
  refine ⟨ha,fun i hi e=>?_⟩
  have:=hok.uni (i:=i) (j:=j) (by rw [zaU]; omega) (by rw [zaU]; exact hjl) (by rw [zbT _ _ _ hjl,zbT _ _ _ (by omega)]; exact e)
  omega
theorem znr (xs:List Int) (name:Int) (n:Nat):findIn xs name n 0=if at1 (zaX xs n) name < n then (at1 (zaX xs n) name:Int) else -1:=by
 have key:∀ m i,i+m=n->(∀ j,j < i->xs.getD (1+2 * j) 0≠name)->findIn xs name m i=if at1 (zaX xs n) name < n then (at1 (zaX xs n) name:Int) else -1:=by
  intro m
  induction m with
  | zero =>
   intro i hi hb
   have:at1 (zaX xs n) name=(zaX xs n).length:=zjm (fun j hj=>by rw [zaU] at hj; rw [zbT _ _ _ hj]; exact hb j (by omega))
   rw [zaU] at this
   rw [findIn,if_neg (by omega)]
  | succ m ih =>
   intro i hi hb
   rw [findIn]
   by_cases h:xs.getD (1+2 * i) 0=name
   ·have:at1 (zaX xs n) name=i:=zn5 (by rw [zaU]; omega) (by rw [zbT _ _ _ (by omega)]; exact h) (fun j hj=>by rw [zbT _ _ _ (by omega)]; exact hb j hj)
    rw [if_pos h,this,if_pos (by omega)]
   ·rw [if_neg h]
    refine ih (i+1) (by omega) (fun j hj=>?_)
    by_cases e:j=i
    ·rw [e]; exact h
    ·exact hb j (by omega)
 exact key n 0 (by omega) (fun j hj=>by omega)

/-! ### The writes of a call -/

def zni (xs:List Int):Prop:=xs.length=11/\0<=xs.getD 0 0/\xs.getD 0 0<=5/\Okw (zaX xs (xs.getD 0 0).toNat)
theorem zni.c {xs:List Int} (h:zni xs):xs.length=11/\0<=xs.getD 0 0/\xs.getD 0 0<=5:=⟨h.1,h.2.1,h.2.2.1⟩
theorem zo4 {xs:List Int} (h:zd8 xs=0):zni xs:=by
 obtain ⟨h1,h2,h3,h4⟩:=(zgf xs).1 h
 exact ⟨h1,h2,h3,h4.w⟩

def zdw (l:List (Int×Int)) (c:Cl):List (Int×Int) :=
 if c.kind=1 then
  if at1 l c.name < l.length then [(2+2 * (at1 l c.name:Int),c.n)] else [(1+2 * (l.length:Int),c.name),(2+2 * (l.length:Int),c.n),(0,(l.length:Int)+1)]
 else if c.kind=3 then
  if at1 l c.name+1 < l.length then [(1+2 * (at1 l c.name:Int),(l.getD (l.length - 1) (0,0)).1),(2+2 * (at1 l c.name:Int),(l.getD (l.length - 1) (0,0)).2),(0,(l.length:Int) - 1)] else [(0,(l.length:Int) - 1)]
 else if c.kind=4 then [(2+2 * (at1 l c.name:Int),num l (at1 l c.name)+c.n)]
 else if c.kind=6 then [(2+2 * (at1 l c.name:Int),num l (at1 l c.other)),(2+2 * (at1 l c.other:Int),num l (at1 l c.name))]
 else []

def zbE (l:List (Int×Int)) (c:Cl):List (Int×Int):=if (zaO l c).2.err≠0 then [] else zdw l c

theorem zjb (l:List (Int×Int)) (c:Cl):(zbE l c).length<=3:=by
 unfold zbE zdw
 repeat' split
 all_goals simp

theorem zqp {ds:List Int} {l:List (Int×Int)} (h0:ds.getD 0 0=(l.length:Int)) (hp:∀ i,i < l.length->ds.getD (1+2 * i) 0=(l.getD i (0,0)).1/\ds.getD (1+2 * i+1) 0=(l.getD i (0,0)).2):zaX ds (ds.getD 0 0).toNat=l:=by
 rw [h0]
 refine zrW (by rw [zaU]; omega) fun i hi=>?_
 rw [zaU] at hi
 rw [zbT _ _ _ hi]
 have:=hp i (by omega)
 exact Prod.ext this.1 this.2

theorem ztq {xs:List Int} {c:Cl} {l:List (Int×Int)} (hl:xs.length=11) (x0:0<=xs.getD 0 0) (hll:xs.getD 0 0=(l.length:Int)) (hat:∀ i,i < l.length->xs.getD (1+2 * i) 0=(l.getD i (0,0)).1/\xs.getD (1+2 * i+1) 0=(l.getD i (0,0)).2)
  (hok:Okn l) (hc:wrongCl c=0) :
  (zav xs (zbE l c)).getD 0 0=((zaO l c).1.length:Int)/\∀ i,i < (zaO l c).1.length->(zav xs (zbE l c)).getD (1+2 * i) 0=((zaO l c).1.getD i (0,0)).1/\(zav xs (zbE l c)).getD (1+2 * i+1) 0=((zaO l c).1.getD i (0,0)).2:=by
 have h5:=hok.len
 have hset:∀ W j,j < 11->(zav xs W).getD j 0=zdh W j (xs.getD j 0):=fun W j hj=>zpB xs W j (by omega)
 have hkk:=zhX hok hc
 by_cases he:(zaO l c).2.err≠0
 ·have e1:zbE l c=[]:=by unfold zbE; rw [if_pos he]
  have e2:(zaO l c).1=l:=by
   rcases hkk.2.1 with h | h
   ·exact absurd h he
   ·exact h.2
  rw [e1,e2]
  exact ⟨hll,hat⟩
 have he':(zaO l c).2.err=0:=by simpa using he
 rw [show zbE l c=zdw l c from if_neg he]
 clear hkk
 unfold zdw
 obtain ⟨k,a,o,n⟩:=c
 simp only
 have hk:k=1∨k=2∨k=3∨k=4∨k=5∨k=6:=by
  unfold wrongCl at hc
  split at hc
  ·cases hc
  ·rename_i h; simp at h; omega
 rcases hk with rfl | rfl | rfl | rfl | rfl | rfl
 ·rw [if_pos rfl]
  have hd:zaO l ⟨1,a,o,n⟩=if at1 l a < l.length then (put1 l (at1 l a) n,⟨0,num l (at1 l a)⟩) else if 5<=l.length then (l,⟨9,0⟩) else (l++[(a,n)],⟨0,0⟩):=rfl
  by_cases ha:at1 l a < l.length
  ·rw [if_pos ha]
   rw [hd,if_pos ha]
   simp only [zay]
   refine ⟨?_,fun i hi=>?_⟩
   ·rw [hset _ _ (by omega)]
    simp only [zdh,List.foldl]
    rw [if_neg (by omega)]; exact hll
   ·rw [hset _ _ (by omega),hset _ _ (by omega),zdR _ _ _ _ ha,zer _ _ _ _ ha]
    simp only [zdh,List.foldl]
    rw [if_neg (by omega)]
    refine ⟨(hat i hi).1,?_⟩
    by_cases e:at1 l a=i
    ·rw [if_pos (by omega),if_pos e]
    ·rw [if_neg (by omega),if_neg e]; exact (hat i hi).2
  ·rw [hd,if_neg ha] at he' ⊢
   rw [if_neg ha]
   by_cases hf:5<=l.length
   ·rw [if_pos hf] at he'; simp at he'
   rw [if_neg hf]
   simp only [List.length_append,List.length_cons,List.length_nil]
   refine ⟨?_,fun i hi=>?_⟩
   ·rw [hset _ _ (by omega)]
    simp only [zdh,List.foldl]
    rw [if_pos (by omega)]; omega
   ·rw [hset _ _ (by omega),hset _ _ (by omega)]
    simp only [zdh,List.foldl]
    by_cases e:i < l.length
    ·rw [if_neg (by omega),if_neg (by omega),if_neg (by omega),if_neg (by omega),if_neg (by omega),if_neg (by omega)]
     rw [List.getD_eq_getElem?_getD (l:=l++[(a,n)]),List.getElem?_append_left e,<- List.getD_eq_getElem?_getD]
     exact hat i e
    ·have e2:i=l.length:=by omega
     subst e2
     rw [if_neg (by omega),if_neg (by omega),if_pos (by omega),if_neg (by omega),if_pos (by omega)]
     simp
 ·rw [if_neg (by decide),if_neg (by decide),if_neg (by decide),if_neg (by decide)]
  have hd:(zaO l ⟨2,a,o,n⟩).1=l:=by
   show (if ¬ at1 l a < l.length then (l,(⟨6,0⟩:Rp)) else (l,⟨0,num l (at1 l a)⟩)).1=l
   split <;> rfl
  rw [hd]
  exact ⟨hll,hat⟩
 ·rw [if_neg (by decide),if_pos rfl]
  have hd:zaO l ⟨3,a,o,n⟩=if ¬ at1 l a < l.length then (l,⟨6,0⟩) else ((l.set (at1 l a) (l.getD (l.length - 1) (0,0))).take (l.length - 1),⟨0,num l (at1 l a)⟩):=rfl
  by_cases ha:at1 l a < l.length
  case neg=>rw [hd,if_pos ha] at he'; simp at he'
  rw [if_neg (by simpa using ha)] at hd
  rw [hd]
  simp only [zcN]
  have hpt:∀ i,i < l.length - 1->((l.set (at1 l a) (l.getD (l.length - 1) (0,0))).take (l.length - 1)).getD i (0,0)=if at1 l a=i then l.getD (l.length - 1) (0,0) else l.getD i (0,0):=fun i hi=>zeb l _ i ha hi
  by_cases hb:at1 l a+1 < l.length
  ·rw [if_pos hb]
   refine ⟨?_,fun i hi=>?_⟩
   ·rw [hset _ _ (by omega)]
    simp only [zdh,List.foldl]
    rw [if_pos (by omega)]; omega
   ·rw [hset _ _ (by omega),hset _ _ (by omega),hpt i hi]
    simp only [zdh,List.foldl]
    by_cases e:at1 l a=i
    ·rw [if_pos e]
     constructor
     ·rw [if_neg (by omega),if_neg (by omega),if_pos (by omega)]
     ·rw [if_neg (by omega),if_pos (by omega)]
    ·rw [if_neg e]
     constructor
     ·rw [if_neg (by omega),if_neg (by omega),if_neg (by omega)]; exact (hat i (by omega)).1
     ·rw [if_neg (by omega),if_neg (by omega),if_neg (by omega)]; exact (hat i (by omega)).2
  ·rw [if_neg hb]
   refine ⟨?_,fun i hi=>?_⟩
   ·rw [hset _ _ (by omega)]
    simp only [zdh,List.foldl]
    rw [if_pos (by omega)]; omega
   ·rw [hset _ _ (by omega),hset _ _ (by omega),hpt i hi,if_neg (by omega)]
    simp only [zdh,List.foldl]
    rw [if_neg (by omega),if_neg (by omega)]
    exact hat i (by omega)
 ·rw [if_neg (by decide),if_neg (by decide),if_pos rfl]
  have hd:zaO l ⟨4,a,o,n⟩=if ¬ at1 l a < l.length then (l,⟨6,0⟩) else if ¬ (-1073741824<=num l (at1 l a)+n/\num l (at1 l a)+n<=1073741824) then (l,⟨3,0⟩) else (put1 l (at1 l a) (num l (at1 l a)+n),⟨0,num l (at1 l a)+n⟩):=rfl
  by_cases ha:at1 l a < l.length
  case neg=>rw [hd,if_pos ha] at he'; simp at he'
  rw [hd,if_neg (by simpa using ha)] at he' ⊢
  by_cases hs:-1073741824<=num l (at1 l a)+n/\num l (at1 l a)+n<=1073741824
  case neg=>rw [if_pos hs] at he'; simp at he'
  rw [if_neg (by simpa using hs)]
  simp only [zay]
  refine ⟨?_,fun i hi=>?_⟩
  ·rw [hset _ _ (by omega)]
   simp only [zdh,List.foldl]
   rw [if_neg (by omega)]; exact hll
  ·rw [hset _ _ (by omega),hset _ _ (by omega),zdR _ _ _ _ ha,zer _ _ _ _ ha]
   simp only [zdh,List.foldl]
   rw [if_neg (by omega)]
   refine ⟨(hat i hi).1,?_⟩
   by_cases e:at1 l a=i
   ·rw [if_pos (by omega),if_pos e]
   ·rw [if_neg (by omega),if_neg e]; exact (hat i hi).2
 ·rw [if_neg (by decide),if_neg (by decide),if_neg (by decide),if_neg (by decide)]
  exact ⟨hll,hat⟩
 ·rw [if_neg (by decide),if_neg (by decide),if_neg (by decide),if_pos rfl]
  have hd:zaO l ⟨6,a,o,n⟩=if ¬ at1 l a < l.length then (l,⟨6,0⟩) else if ¬ at1 l o < l.length then (l,⟨6,0⟩)
   else (put1 (put1 l (at1 l a) (num l (at1 l o))) (at1 l o) (num l (at1 l a)),⟨0,num l (at1 l o)⟩):=rfl
  by_cases ha:at1 l a < l.length
  case neg=>rw [hd,if_pos ha] at he'; simp at he'
  rw [hd,if_neg (by simpa using ha)] at he' ⊢
  by_cases hb:at1 l o < l.length
  case neg=>rw [if_pos hb] at he'; simp at he'
  rw [if_neg (by simpa using hb)]
  have hb2:at1 l o < (put1 l (at1 l a) (num l (at1 l o))).length:=by rw [zay]; exact hb
  simp only [zay]
  refine ⟨?_,fun i hi=>?_⟩
  ·rw [hset _ _ (by omega)]
   simp only [zdh,List.foldl]
   rw [if_neg (by omega),if_neg (by omega)]; exact hll
  ·rw [hset _ _ (by omega),hset _ _ (by omega),zdR _ _ _ _ hb2,zdR _ _ _ _ ha,zer _ _ _ _ hb2,zer _ _ _ _ ha]
   simp only [zdh,List.foldl]
   rw [if_neg (by omega),if_neg (by omega)]
   refine ⟨(hat i hi).1,?_⟩
   by_cases e:at1 l o=i
   ·rw [if_pos (by omega),if_pos e]
   ·rw [if_neg (by omega),if_neg e]
    by_cases e2:at1 l a=i
    ·rw [if_pos (by omega),if_pos e2]
    ·rw [if_neg (by omega),if_neg e2]; exact (hat i hi).2

theorem zn8 {xs:List Int} {c:Cl} (hx:zd8 xs=0) (hc:wrongCl c=0) :
  zd8 (zav xs (zbE (zaX xs (xs.getD 0 0).toNat) c))=0 /\
  zaX (zav xs (zbE (zaX xs (xs.getD 0 0).toNat) c)) ((zav xs (zbE (zaX xs (xs.getD 0 0).toNat) c)).getD 0 0).toNat=(zaO (zaX xs (xs.getD 0 0).toNat) c).1:=by
 obtain ⟨hl,x0,x5,hok⟩:=(zgf xs).1 hx
 have hll:xs.getD 0 0=((zaX xs (xs.getD 0 0).toNat).length:Int):=by rw [zaU]; omega
 obtain ⟨h1,h2⟩:=ztq (c:=c) hl x0 hll (fun i hi=>by rw [zaU] at hi; rw [zbT _ _ _ hi]; exact ⟨rfl,rfl⟩) hok hc
 have e:=zqp h1 h2
 refine ⟨?_,e⟩
 have hd:=zhX hok hc
 rw [zgf,e]
 have:=hd.1.len
 exact ⟨by rw [zbS]; exact hl,by omega,by omega,hd.1⟩

open Go Go.RowKit

structure St where
 cells:List Int
 undo:List (Int×Int)
 answers:List An
 past:List Rq

theorem St.ext' {s t:St} (h1:s.cells=t.cells) (h2:s.undo=t.undo) (h3:s.answers=t.answers) (h4:s.past=t.past):s=t:=by
 cases s; cases t; simp at *; exact ⟨h1,h2,h3,h4⟩

def newSt:St:=⟨List.replicate 11 0,[],[],[]⟩
def zaP (s:St) (p:Int×Int):St :=
 if 0<=p.1/\p.1 < (s.cells.length:Int) then { s with cells:=zc1 s.cells p,undo:=(p.1,s.cells.getD p.1.toNat 0)::s.undo } else s
def zci (s:St):St:={ s with cells:=zav s.cells s.undo,undo:=[] }
def zbW:List An->An->List An
 | [],a=>[a]
 | x::l,a=>if x.client=a.client then a::l else x::zbW l a
def zdQ (s:St) (r:Rq) (says:Rp):St:=⟨s.cells,[],zbW s.answers ⟨r.client,r.token,says⟩,s.past++[r]⟩
def lastAn:List An->Int->An×Bool
 | [],_=>(zeroAn,false)
 | x::l,c=>if x.client=c then (x,true) else lastAn l c
theorem znB (l:List An) (a:An):lastAn (zbW l a) a.client=(a,true):=by
 induction l with
 | nil=>simp [zbW,lastAn]
 | cons x l ih =>
  unfold zbW
  by_cases h:x.client=a.client
  ·rw [if_pos h]; simp [lastAn]
  ·rw [if_neg h,lastAn,if_neg h]; exact ih
theorem znS (l:List An) (a:An) (c:Int) (hc:c≠a.client):lastAn (zbW l a) c=lastAn l c:=by
 induction l with
 | nil=>simp [zbW,lastAn]; intro h; exact absurd h.symm hc
 | cons x l ih =>
  unfold zbW
  by_cases h:x.client=a.client
  ·rw [if_pos h,lastAn,lastAn,if_neg (fun e=>hc e.symm),if_neg (fun e=>hc (e.symm.trans h))]
  ·rw [if_neg h,lastAn,lastAn,ih]
theorem zlM (l:List An) (a:An):(zbW l a).length<=l.length+1:=by
 induction l with
 | nil=>simp [zbW]
 | cons x l ih =>
  unfold zbW
  split
  ·simp
  ·simp; omega

theorem zqc (s:St) (r:Rq) (says:Rp):lastAn (zdQ s r says).answers r.client=(⟨r.client,r.token,says⟩,true):=znB s.answers ⟨r.client,r.token,says⟩

theorem zpY (xs:List Int) (p:Int×Int) (h0:0<=p.1) (h1:p.1 < (xs.length:Int)):zc1 (zc1 xs p) (p.1,xs.getD p.1.toNat 0)=xs:=by
 obtain ⟨i,hi⟩:∃ i:Nat,p.1=(i:Int):=⟨p.1.toNat,by omega⟩
 have hl:i < xs.length:=by omega
 have hlen:(zc1 xs p).length=xs.length:=by have:=zbS xs [p]; simpa [zav] using this
 have hlen2:(zc1 (zc1 xs p) (p.1,xs.getD p.1.toNat 0)).length=xs.length:=by have:=zbS (zc1 xs p) [(p.1,xs.getD p.1.toNat 0)]; rw [hlen] at this; simpa [zav] using this
 refine List.ext_getElem? fun j=>?_
 by_cases hj:j < xs.length
 ·have a1:=zlr (zc1 xs p) (p.1,xs.getD p.1.toNat 0) j (by omega)
  have a2:=zlr xs p j hj
  rw [a2] at a1
  rw [List.getD_eq_getElem?_getD,List.getElem?_eq_getElem (by omega)] at a1
  rw [List.getElem?_eq_getElem (by omega),List.getElem?_eq_getElem hj]
  simp only [Option.getD_some] at a1
  rw [a1]
  congr 1
  by_cases hp:p.1=(j:Int)
  ·rw [if_pos hp,hp]; simp [hj]
  ·rw [if_neg hp,if_neg hp]; simp [hj]
 ·rw [List.getElem?_eq_none (by omega),List.getElem?_eq_none (by omega)]

theorem znR (s:St) (p:Int×Int):zci (zaP s p)=zci s:=by
 unfold zaP
 by_cases h:0<=p.1/\p.1 < (s.cells.length:Int)
 ·rw [if_pos h]
  unfold zci
  refine St.ext' ?_ rfl rfl rfl
  show zav (zc1 s.cells p) ((p.1,s.cells.getD p.1.toNat 0)::s.undo)=zav s.cells s.undo
  have:zav (zc1 s.cells p) ((p.1,s.cells.getD p.1.toNat 0)::s.undo)=zav (zc1 (zc1 s.cells p) (p.1,s.cells.getD p.1.toNat 0)) s.undo:=rfl
  rw [this,zpY _ _ h.1 h.2]
 ·rw [if_neg h]
theorem zlc (s:St) (p:Int×Int):(zaP s p).cells.length=s.cells.length:=by
 unfold zaP
 split
 ·show (zc1 s.cells p).length=_
  have:=zbS s.cells [p]; simpa [zav] using this
 ·rfl
end Go.Mk

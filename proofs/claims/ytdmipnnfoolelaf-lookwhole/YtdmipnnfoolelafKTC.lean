/- Texts of the proof, merged: Math3 Read2 Mem2 Math7 Read3 Mem3 Math1. -/
import Derived.Test.YtdmipnnfoolelafKTB
import Derived.Deep.Strs
import Derived.Laws.IdiomStrings

namespace Go.Mk
open Go Go.RowKit

def zdn (s:List (Int×Int)×List (Int×Int)) (c:Cl):List (Int×Int)×List (Int×Int):=((za5 s.1 c).1,s.2++[((za5 s.1 c).2.err,(za5 s.1 c).2.n)])

def allCl (cs:List Cl):List (Int×Int)×List (Int×Int):=cs.foldl zdn ([],[])

theorem zfK (cs:List Cl) (c:Cl):allCl (cs++[c])=zdn (allCl cs) c:=by simp [allCl]

theorem zfS {cs:List Cl} {k:Nat} {c:Cl} (h:cs[k]?=some c):allCl (cs.take (k+1))=zdn (allCl (cs.take k)) c:=by
 rw [List.take_add_one,h]
 exact zfK _ _

theorem okn_nil:Okn []:=zhb (by simp) (fun i hi=>by simp at hi) (fun i j _ hj=>by simp at hj)

theorem zkL {cs:List Cl} (h:∀ c ∈ cs,wrongCl c=0) (k:Nat):Okn (allCl (cs.take k)).1/\(allCl (cs.take k)).2.length=min k cs.length:=by
 induction k with
 | zero=>exact ⟨okn_nil,by simp [allCl]⟩
 | succ k ih =>
  by_cases hk:k < cs.length
  ·have hg:cs[k]?=some cs[k]:=List.getElem?_eq_getElem hk
   rw [zfS hg]
   refine ⟨(ziu ih.1 (h _ (List.getElem_mem hk))).1,?_⟩
   simp only [zdn,List.length_append,List.length_cons,List.length_nil,ih.2]
   omega
  ·rw [List.take_of_length_le (by omega)]
   rw [List.take_of_length_le (by omega)] at ih
   exact ⟨ih.1,by rw [ih.2]; omega⟩

def zaz (xs:List Int) (n:Nat):List (Int×Int):=(List.range n).map fun i=>(xs.getD (1+2 * i) 0,xs.getD (1+2 * i+1) 0)

theorem zgg (xs:List Int) (n:Nat):zaz xs (n+1)=zaz xs n++[(xs.getD (1+2 * n) 0,xs.getD (1+2 * n+1) 0)]:=by simp [zaz,List.range_succ]

theorem zaF (xs:List Int) (n:Nat):(zaz xs n).length=n:=by simp [zaz]

def zaN (l:List Rq):List Value:=l.flatMap fun r=>[I r.client,I r.token,I r.call.kind,I r.call.name,I r.call.other,I r.call.n]

theorem zhN (l:List Rq):(zaN l).length=l.length * 6:=by
 unfold zaN
 induction l with
 | nil=>rfl
 | cons p l ih=>simp [List.flatMap_cons,ih]; omega

theorem zlv (l:List Rq) (k:Nat) (r:Rq) (h:l[k]?=some r):(zaN l)[k * 6]?=some (I r.client)/\(zaN l)[k * 6+1]?=some (I r.token)/\(zaN l)[k * 6+2]?=some (I r.call.kind) /\
  (zaN l)[k * 6+3]?=some (I r.call.name)/\(zaN l)[k * 6+4]?=some (I r.call.other)/\(zaN l)[k * 6+5]?=some (I r.call.n):=by
 induction l generalizing k with
 | nil=>simp at h
 | cons p l ih =>
  cases k with
  | zero =>
   simp at h
   subst h
   exact ⟨rfl,rfl,rfl,rfl,rfl,rfl⟩
  | succ k =>
   have:=ih k (by simpa using h)
   rw [show (k+1) * 6=k * 6+6 by omega,show k * 6+6+1=k * 6+1+6 by omega,show k * 6+6+2=k * 6+2+6 by omega,show k * 6+6+3=k * 6+3+6 by omega,show k * 6+6+4=k * 6+4+6 by omega,show k * 6+6+5=k * 6+5+6 by omega]
   exact this

def zln (w:World) (v:Value) (l:List Rq):Prop:=Row w 6 v l.length (zaN l)

theorem zln.ext {w w':World} {v:Value} {l:List Rq} (h:zln w v l) (he:Ext w w'):zln w' v l:=Row.ext h he

theorem zln.form {w:World} {v:Value} {l:List Rq} (h:zln w v l):∃ ao cap,v=.slice ao l.length cap/\l.length<=cap/\cap<=maxLen /\
  ∀ k r,l[k]?=some r->∃ b off,ao=some ⟨b,off,none⟩/\w.cell? ⟨b,off+k * 6,none⟩=some (I r.client)/\w.cell? ⟨b,off+k * 6+1,none⟩=some (I r.token)/\w.cell? ⟨b,off+k * 6+2,none⟩=some (I r.call.kind) /\
   w.cell? ⟨b,off+k * 6+3,none⟩=some (I r.call.name)/\w.cell? ⟨b,off+k * 6+4,none⟩=some (I r.call.other)/\w.cell? ⟨b,off+k * 6+5,none⟩=some (I r.call.n):=by
 obtain ⟨_,ao,cap,h2,h3,h4,_,h5⟩:=h
 refine ⟨ao,cap,h2,h3,h4,fun k r hk=>?_⟩
 obtain ⟨c0,c1,c2,c3,c4,c5⟩:=zlv l k r hk
 obtain ⟨b,off,e,q0⟩:=h5 _ _ c0
 have all:∀ j u,(zaN l)[j]?=some u->w.cell? ⟨b,off+j,none⟩=some u:=fun j u hj=>by
  obtain ⟨b',off',e',q⟩:=h5 j u hj
  rw [e] at e'
  simp only [Option.some.injEq,Addr.mk.injEq,and_true] at e'
  obtain ⟨rfl,rfl⟩:=e'
  exact q
 exact ⟨b,off,e,q0,all _ _ c1,all _ _ c2,all _ _ c3,all _ _ c4,all _ _ c5⟩

theorem zjh (l:List (Int×Int)) (a o n:Int):za5 l ⟨1,a,o,n⟩=if at1 l a < l.length then (zch l (at1 l a) n,⟨0,num l (at1 l a)⟩) else if 5<=l.length then (l,⟨9,0⟩) else (l++[(a,n)],⟨0,0⟩):=rfl

theorem zhv (l:List (Int×Int)) (a o n:Int):za5 l ⟨2,a,o,n⟩=if ¬ at1 l a < l.length then (l,⟨6,0⟩) else (l,⟨0,num l (at1 l a)⟩):=rfl

theorem zgu (l:List (Int×Int)) (a o n:Int):za5 l ⟨3,a,o,n⟩=if ¬ at1 l a < l.length then (l,⟨6,0⟩) else ((l.set (at1 l a) (l.getD (l.length - 1) (0,0))).take (l.length - 1),⟨0,num l (at1 l a)⟩):=rfl

theorem zgT (l:List (Int×Int)) (a o n:Int):za5 l ⟨4,a,o,n⟩=if ¬ at1 l a < l.length then (l,⟨6,0⟩) else if ¬ (-1073741824<=num l (at1 l a)+n/\num l (at1 l a)+n<=1073741824) then (l,⟨3,0⟩) else (zch l (at1 l a) (num l (at1 l a)+n),⟨0,num l (at1 l a)+n⟩):=rfl

theorem zfP (l:List (Int×Int)) (a b n:Int):za5 l ⟨6,a,b,n⟩=if ¬ at1 l a < l.length then (l,⟨6,0⟩) else if ¬ at1 l b < l.length then (l,⟨6,0⟩)
  else (zch (zch l (at1 l a) (num l (at1 l b))) (at1 l b) (num l (at1 l a)),⟨0,num l (at1 l b)⟩):=rfl

theorem zeN {k a o n:Int} (h:wrongCl ⟨k,a,o,n⟩=0):(k=1∨k=2∨k=3∨k=4∨k=5∨k=6)/\(k=1∨k=4->-1073741824<=n/\n<=1073741824):=by
 unfold wrongCl at h
 dsimp only at h
 repeat' split at h
 all_goals first | exact absurd h (by decide) | (constructor <;> omega)

open Go Go.RowKit Go.ChangeShapes Go.WideShapes

section
variable {P:Program} {H:Type} {enc:TypeId×Value->H} {W:World} {X:Type}

theorem zlM {e:TypeId} {f0 f1 f2 f3:Field} {fuel:Nat} {cs:List Value} {z:DataW H×List MemPlace} (he:P.underlying e=some (.struct #[f0,f1,f2,f3])) (hc:P.cellsOf e=4)
  (h0:P.underlying f0.type=some (.int .i64)) (h1:P.underlying f1.type=some (.int .i64)) (h2:P.underlying f2.type=some (.int .i64)) (h3:P.underlying f3.type=some (.int .i64))
  (o0:f0.offset=0) (o1:f1.offset=1) (o2:f2.offset=2) (o3:f3.offset=3) (c0:P.cellsOf f0.type=1) (c1:P.cellsOf f1.type=1) (c2:P.cellsOf f2.type=1) (c3:P.cellsOf f3.type=1)
  (hz:DataW.trod enc P W 0 (fun _=>true) true fuel e cs=some z):∃ c:Cl,cs=[I c.kind,I c.name,I c.other,I c.n]:=by
 obtain ⟨y0,y1,y2,y3,m,hx,hcl,t0,t1,t2,t3⟩:=Go.Joins.trod_struct4 he hz
 rw [hc] at hcl
 obtain ⟨u0,u1,u2,u3,rfl⟩:∃ u0 u1 u2 u3,cs=[u0,u1,u2,u3]:=by
  match cs,hcl with
  | [u0,u1,u2,u3],_=>exact ⟨u0,u1,u2,u3,rfl⟩
 rw [o0,c0] at t0
 rw [o1,c1] at t1
 rw [o2,c2] at t2
 rw [o3,c3] at t3
 obtain ⟨x0,e0,_⟩:=DataW.trod_int h0 t0
 obtain ⟨x1,e1,_⟩:=DataW.trod_int h1 t1
 obtain ⟨x2,e2,_⟩:=DataW.trod_int h2 t2
 obtain ⟨x3,e3,_⟩:=DataW.trod_int h3 t3
 simp at e0 e1 e2 e3
 exact ⟨⟨x0,x1,x2,x3⟩,by rw [e0,e1,e2,e3]⟩

end
open Go Go.RowKit

abbrev U (b:UInt8):Value:=.int .u8 (b.toNat:Int)

def zbk (w:World) (v:Value) (l:List UInt8):Prop:=Row w 1 v l.length (l.map U)
theorem zbk.ext {w w':World} {v:Value} {l:List UInt8} (h:zbk w v l) (he:Ext w w'):zbk w' v l:=Row.ext h he
theorem zbk.form {w:World} {v:Value} {l:List UInt8} (h:zbk w v l):∃ ao cap,v=.slice ao l.length cap/\l.length<=cap/\cap<=maxLen /\
  ∀ k,k < l.length->∃ b off,ao=some ⟨b,off,none⟩/\w.cell? ⟨b,off+k,none⟩=some (U (l.getD k 0)):=by
 obtain ⟨_,ao,cap,h2,h3,h4,_,h5⟩:=h
 refine ⟨ao,cap,h2,h3,h4,fun k hk=>?_⟩
 exact h5 k _ (by simp [hk])
theorem zfA {w:World} {base e n:Nat} {v:Value} {l:List UInt8} (h:w.ownsRow base e 1 v n (l.map U)):zbk w v l:=by
 have hl:l.length=n:=by simpa using h.1
 subst hl
 exact Row.of_owns h
theorem za9 (w:World):zbk w (.slice none 0 0) []:=zfA (World.ownsRow_nil w 0 0 1)
theorem zih (l:List UInt8):∀ v,zb7 (fun w=>zbk w v l):=fun _ _ _ he h=>zbk.ext h he

theorem zgv {w:World} (e:TypeId) (l:List UInt8) (cs:Array Value) (n:Nat) (hc:cs.toList=l.map U) (hn:l.length=n) (hm:n<=maxLen):zbk (w.alloc (.cells cs e)) (.slice (some ⟨w.heap.size,0,none⟩) n n) l:=by
 subst hn
 have:=World.ownsRow_lit (base:=0) (e:=e) (size:=1) w cs l.length (Nat.zero_le _) hm (by rw [<- Array.length_toList,hc]; simp)
 rw [hc] at this
 exact zfA this

theorem zed {P:Program} {w:World} {v:Value} {l:List UInt8} (h:zbk w v l) {src dst e:TypeId} (hs:P.underlying src=some (.slice e)) (he:P.underlying e=some (.int .u8)) (hd:P.underlying dst=some .string) :
  (convert src dst v).run P w=.ok (.string ⟨l.toArray⟩) w:=by
 obtain ⟨hl,ao,cap,rfl,hc,hm,h0,hcell⟩:=h
 cases ao with
 | none =>
  have hcap:=h0 rfl
  subst hcap
  have hln:l=[]:=List.eq_nil_of_length_eq_zero (by omega)
  subst hln
  rw [run_convert_bytes_string w src dst e _ _ _ hs he hd]
  rfl
 | some a =>
  refine run_convert_bytes_back w src dst e a cap l hs he hd (fun j hj=>?_)
  obtain ⟨b,off,e',hc'⟩:=hcell j (U l[j]) (by simp [hj])
  simp only [Option.some.injEq] at e'
  subst e'
  rw [add_plain]
  exact hc'

theorem zeS (w:World) (e:TypeId) (l:List UInt8) (hl:l.length<=maxLen) (fr:Nat×Nat) :
  zbk (w.drew.alloc (.cells (bytesRow ⟨l.toArray⟩ (grownCap w l.length 0 e)) e fr)) (.slice (some ⟨w.heap.size,0,none⟩) l.length (grownCap w l.length 0 e)) l:=by
 refine ⟨by simp,_,_,rfl,grownCap_ge _ _ _ _,grownCap_le_maxLen _ _ _ _ hl,(fun h=>by cases h),fun j u hj=>⟨w.heap.size,0,rfl,?_⟩⟩
 have hj':j < l.length:=by have:=(List.getElem?_eq_some_iff.1 hj).1; simpa using this
 have:=World.cell?_alloc_mark w.drew (bytesRow ⟨l.toArray⟩ (grownCap w l.length 0 e)) e fr j
 rw [Nat.zero_add]
 refine Eq.trans this ?_
 rw [bytesRow_at _ _ _ (by simpa using hj')]
 simp [hj'] at hj
 simpa using hj

theorem zbk.drop {w:World} {l:List UInt8} {b off n cap:Nat} (h:zbk w (.slice (some ⟨b,off,none⟩) n cap) l) (k:Nat) (hk:k<=l.length):zbk w (.slice (some ⟨b,off+k,none⟩) (l.length - k) (cap - k)) (l.drop k):=by
 obtain ⟨hl,ao',cap',h2,h3,h4,h0,h5⟩:=h
 simp only [Value.slice.injEq] at h2
 obtain ⟨rfl,rfl,rfl⟩:=h2
 have hd:(l.drop k).length=l.length - k:=List.length_drop
 unfold zbk
 rw [hd]
 refine ⟨by simp,_,_,rfl,by omega,by omega,(fun h=>by cases h),fun j u hj=>?_⟩
 rw [List.getElem?_map,List.getElem?_drop,<- List.getElem?_map] at hj
 obtain ⟨b',off',e',hc'⟩:=h5 (k+j) u hj
 simp only [Option.some.injEq,Addr.mk.injEq,and_true] at e'
 obtain ⟨rfl,rfl⟩:=e'
 exact ⟨b,off+k,rfl,by rw [Nat.add_assoc]; exact hc'⟩

def zcA (base:Nat) (w:World) (v:Value) (l:List UInt8):Prop:=∃ b off n cap,v=.slice (some ⟨b,off,none⟩) n cap/\base<=b/\zbk w v l
theorem zcA.bytes {base:Nat} {w:World} {v:Value} {l:List UInt8} (h:zcA base w v l):zbk w v l:=by
 obtain ⟨_,_,_,_,_,_,h⟩:=h
 exact h
theorem zdZ (base:Nat) (l:List UInt8):∀ v,zb7 (fun w=>zcA base w v l):=fun _ _ _ he ⟨b,o,n,c,e,hb,h⟩=>⟨b,o,n,c,e,hb,h.ext he⟩

open Go Go.RowKit

structure An where
 client:Int
 token:Int
 reply:Rp

def zbH (r:Rq):Int:=if ¬ (0<=r.client/\r.client < 3/\0<=r.token/\r.token < 8) then 3 else wrongCl r.call
def zbE (a:An):Int :=
 if ¬ (0<=a.client/\a.client < 3/\0<=a.token/\a.token < 8)∨a.reply.err < 0∨12 < a.reply.err∨1073741824 < a.reply.n∨a.reply.n < -1073741824∨(0 < a.reply.err/\a.reply.n≠0) then 3 else 0

def byteOf (n:Int):UInt8:=UInt8.ofNat (n % 256).toNat
def u32 (n:Int):Nat:=(n % 4294967296).toNat
def zdC (n:Int):List UInt8:=[UInt8.ofNat (u32 n / 16777216),UInt8.ofNat (u32 n / 65536 % 256),UInt8.ofNat (u32 n / 256 % 256),UInt8.ofNat (u32 n % 256)]
def zjb (u:Nat):Int:=if u < 2147483648 then (u:Int) else (u:Int) - 4294967296
def numB (b:List UInt8):Int:=zjb ((((b.getD 0 0).toNat * 256+(b.getD 1 0).toNat) * 256+(b.getD 2 0).toNat) * 256+(b.getD 3 0).toNat)

theorem zbN {n:Int} (h0:0<=n) (h1:n<=255):((byteOf n).toNat:Int)=n:=by
 unfold byteOf
 rw [UInt8.toNat_ofNat']
 omega
theorem znZ (n:Int):u32 n < 4294967296:=by unfold u32; omega
theorem zlO {n:Int} (h0:-2147483648<=n) (h1:n < 2147483648):zjb (u32 n)=n:=by
 unfold zjb u32
 split <;> omega
theorem zin {n:Int} (h0:-2147483648<=n) (h1:n < 2147483648):numB (zdC n)=n:=by
 have hu:=znZ n
 unfold numB zdC
 simp only [List.getD_cons_zero,List.getD_cons_succ,UInt8.toNat_ofNat']
 have e:(((u32 n / 16777216 % 256) * 256+u32 n / 65536 % 256 % 256) * 256+u32 n / 256 % 256 % 256) * 256+u32 n % 256 % 256=u32 n:=by omega
 rw [show (2 ^ 8:Nat)=256 from rfl,e,zlO h0 h1]
def zeroRq:Rq:=⟨0,0,⟨0,0,0,0⟩⟩
def zeroAn:An:=⟨0,0,⟨0,0⟩⟩
def zc0 (r:Rq):List UInt8:=[113,byteOf r.client,byteOf r.token,byteOf r.call.kind,byteOf r.call.name,byteOf r.call.other]++zdC r.call.n
def zce (a:An):List UInt8:=[97,byteOf a.client,byteOf a.token,byteOf a.reply.err]++zdC a.reply.n
def zmU (b:List UInt8):Rq:=⟨(b.getD 1 0).toNat,(b.getD 2 0).toNat,⟨(b.getD 3 0).toNat,(b.getD 4 0).toNat,(b.getD 5 0).toNat,numB (b.drop 6)⟩⟩
def zl1 (b:List UInt8):An:=⟨(b.getD 1 0).toNat,(b.getD 2 0).toNat,⟨(b.getD 3 0).toNat,numB (b.drop 4)⟩⟩
def readRq (b:List UInt8):Rq×Int :=
 if b.length≠10∨b.getD 0 0≠113 then (zeroRq,2) else if zbH (zmU b)≠0 then (zeroRq,zbH (zmU b)) else (zmU b,0)
def readAn (b:List UInt8):An×Int :=
 if b.length≠8∨b.getD 0 0≠97 then (zeroAn,2) else if zbE (zl1 b)≠0 then (zeroAn,zbE (zl1 b)) else (zl1 b,0)

theorem zee {r:Rq} (h:zbH r=0):(0<=r.client/\r.client < 3/\0<=r.token/\r.token < 8)/\wrongCl r.call=0:=by
 unfold zbH at h
 split at h
 ·exact absurd h (by decide)
 ·rename_i hw
  exact ⟨by omega,h⟩
theorem zhW {c:Cl} (h:wrongCl c=0):(0<=c.kind/\c.kind<=255)/\(0<=c.name/\c.name<=255)/\(0<=c.other/\c.other<=255)/\(-1073741824<=c.n/\c.n<=1073741824):=by
 unfold wrongCl at h
 repeat' split at h
 all_goals first | exact absurd h (by decide) | skip
 refine ⟨?_,?_,?_,?_⟩ <;> omega
theorem zhF {a:An} (h:zbE a=0):(0<=a.client/\a.client < 3/\0<=a.token/\a.token < 8)/\(0<=a.reply.err/\a.reply.err<=12)/\(-1073741824<=a.reply.n/\a.reply.n<=1073741824)/\(0 < a.reply.err->a.reply.n=0):=by
 unfold zbE at h
 split at h
 ·exact absurd h (by decide)
 ·rename_i hw
  omega
theorem zml {r:Rq} (h:zbH r=0):zmU (zc0 r)=r:=by
 obtain ⟨hw,hc⟩:=zee h
 obtain ⟨h1,h2,h3,h4⟩:=zhW hc
 obtain ⟨cl,tk,⟨k,a,o,n⟩⟩:=r
 simp only at *
 have e:zmU (zc0 ⟨cl,tk,⟨k,a,o,n⟩⟩)=⟨((byteOf cl).toNat:Int),((byteOf tk).toNat:Int),⟨((byteOf k).toNat:Int),((byteOf a).toNat:Int),((byteOf o).toNat:Int),numB (zdC n)⟩⟩:=rfl
 rw [e,zbN (by omega) (by omega),zbN (by omega) (by omega),zbN h1.1 h1.2,zbN h2.1 h2.2,zbN h3.1 h3.2,zin (by omega) (by omega)]
theorem zmX {a:An} (h:zbE a=0):zl1 (zce a)=a:=by
 obtain ⟨hw,h1,h2,_⟩:=zhF h
 obtain ⟨cl,tk,⟨e0,n⟩⟩:=a
 simp only at *
 have e:zl1 (zce ⟨cl,tk,⟨e0,n⟩⟩)=⟨((byteOf cl).toNat:Int),((byteOf tk).toNat:Int),⟨((byteOf e0).toNat:Int),numB (zdC n)⟩⟩:=rfl
 rw [e,zbN (by omega) (by omega),zbN (by omega) (by omega),zbN (by omega) (by omega),zin (by omega) (by omega)]
theorem zkl {r:Rq} (h:zbH r=0):readRq (zc0 r)=(r,0):=by
 have hl:(zc0 r).length=10:=rfl
 have h0:(zc0 r).getD 0 0=113:=rfl
 unfold readRq
 rw [if_neg (by rw [hl,h0]; simp),zml h,if_neg (by simp [h])]
theorem zku {a:An} (h:zbE a=0):readAn (zce a)=(a,0):=by
 have hl:(zce a).length=8:=rfl
 have h0:(zce a).getD 0 0=97:=rfl
 unfold readAn
 rw [if_neg (by rw [hl,h0]; simp),zmX h,if_neg (by simp [h])]
open Go Go.RowKit Go.ChangeShapes Go.WideShapes

section
variable {P:Program} {H:Type} {enc:TypeId×Value->H} {W:World} {X:Type}

end
open Go Go.RowKit

abbrev El (X:Type):=World->List Value->X->Prop
def zeV {X:Type} (R:El X):Prop:=∀ w w' c x,Ext w w'->R w c x->R w' c x
def zon {X:Type} (R:El X):Prop:=∀ w c x,R w c x->∀ u ∈ c,u.oneCell'=true

section
variable {X:Type} {size:Nat} {R:El X}

def zcR (size:Nat) (R:El X) (w:World) (css:List (List Value)) (xs:List X):Prop :=
 css.length=xs.length/\∀ (i:Nat) c x,css[i]?=some c->xs[i]?=some x->c.length=size/\R w c x

theorem zcR.ext (hR:zeV R) {w w':World} {css:List (List Value)} {xs:List X} (h:zcR size R w css xs) (he:Ext w w'):zcR size R w' css xs :=
 ⟨h.1,fun i c x hc hx=>⟨(h.2 i c x hc hx).1,hR _ _ _ _ he (h.2 i c x hc hx).2⟩⟩
theorem zcR.nil (w:World):zcR size R w [] []:=⟨rfl,fun i c x hc=>by simp at hc⟩
theorem zcR.snoc {w:World} {css:List (List Value)} {xs:List X} {c:List Value} {x:X} (h:zcR size R w css xs) (hc:c.length=size) (hr:R w c x):zcR size R w (css++[c]) (xs++[x]):=by
 refine ⟨by simp [h.1],fun i d y hd hy=>?_⟩
 by_cases hi:i < css.length
 ·rw [List.getElem?_append_left hi] at hd
  rw [List.getElem?_append_left (by rw [<- h.1]; exact hi)] at hy
  exact h.2 i d y hd hy
 ·have hlt:=(List.getElem?_eq_some_iff.1 hd).1
  simp at hlt
  have hi2:i=css.length:=by omega
  subst hi2
  rw [List.getElem?_append_right (Nat.le_refl _)] at hd
  rw [h.1,List.getElem?_append_right (Nat.le_refl _)] at hy
  simp at hd hy
  subst hd hy
  exact ⟨hc,hr⟩
theorem zcR.append {w:World} {css dss:List (List Value)} {xs ys:List X} (h:zcR size R w css xs) (k:zcR size R w dss ys):zcR size R w (css++dss) (xs++ys):=by
 refine ⟨by simp [h.1,k.1],fun i d y hd hy=>?_⟩
 by_cases hi:i < css.length
 ·rw [List.getElem?_append_left hi] at hd
  rw [List.getElem?_append_left (by rw [<- h.1]; exact hi)] at hy
  exact h.2 i d y hd hy
 ·rw [List.getElem?_append_right (by omega)] at hd
  rw [List.getElem?_append_right (by rw [<- h.1]; omega),<- h.1] at hy
  exact k.2 _ d y hd hy
theorem zcR.take {w:World} {css:List (List Value)} {xs:List X} (h:zcR size R w css xs) (k:Nat):zcR size R w (css.take k) (xs.take k):=by
 refine ⟨by simp [h.1],fun i d y hd hy=>?_⟩
 rw [List.getElem?_take] at hd hy
 split at hd
 ·rw [if_pos (by assumption)] at hy; exact h.2 i d y hd hy
 ·cases hd
theorem zcR.drop {w:World} {css:List (List Value)} {xs:List X} (h:zcR size R w css xs) (k:Nat):zcR size R w (css.drop k) (xs.drop k):=by
 refine ⟨by simp [h.1],fun i d y hd hy=>?_⟩
 rw [List.getElem?_drop] at hd hy
 exact h.2 _ d y hd hy
theorem zcR.set {w:World} {css:List (List Value)} {xs:List X} (h:zcR size R w css xs) (k:Nat) {c:List Value} {x:X} (hc:c.length=size) (hr:R w c x):zcR size R w (css.set k c) (xs.set k x):=by
 refine ⟨by simp [h.1],fun i d y hd hy=>?_⟩
 rw [List.getElem?_set] at hd hy
 split at hd
 ·rename_i hki
  split at hd
  ·rw [if_pos hki,if_pos (by rw [<- h.1]; assumption)] at hy
   simp at hd hy
   subst hd hy
   exact ⟨hc,hr⟩
  ·cases hd
 ·rw [if_neg (by assumption)] at hy
  exact h.2 i d y hd hy
theorem zcR.sizes {w:World} {css:List (List Value)} {xs:List X} (h:zcR size R w css xs):∀ c ∈ css,c.length=size:=fun c hc=>by
 obtain ⟨i,hi⟩:=List.mem_iff_getElem?.1 hc
 have hlt:=(List.getElem?_eq_some_iff.1 hi).1
 have hx:xs[i]?=some (xs[i]'(by rw [<- h.1]; exact hlt)):=List.getElem?_eq_getElem _
 exact (h.2 i c _ hi hx).1
theorem zcR.ones (hO:zon R) {w:World} {css:List (List Value)} {xs:List X} (h:zcR size R w css xs):∀ u ∈ css.flatten,u.oneCell'=true:=fun u hu=>by
 obtain ⟨c,hc,huc⟩:=List.mem_flatten.1 hu
 obtain ⟨i,hi⟩:=List.mem_iff_getElem?.1 hc
 have hlt:=(List.getElem?_eq_some_iff.1 hi).1
 have hx:xs[i]?=some (xs[i]'(by rw [<- h.1]; exact hlt)):=List.getElem?_eq_getElem _
 exact hO _ _ _ (h.2 i c _ hi hx).2 u huc

def zaq (size:Nat) (R:El X) (w:World) (v:Value) (xs:List X):Prop:=∃ css,zcR size R w css xs/\Row w size v xs.length css.flatten

theorem zaq.ext (hR:zeV R) {w w':World} {v:Value} {xs:List X} (h:zaq size R w v xs) (he:Ext w w'):zaq size R w' v xs:=by
 obtain ⟨css,h1,h2⟩:=h
 exact ⟨css,h1.ext hR he,h2.ext he⟩
theorem zaq.mono (hR:zeV R) (xs:List X):∀ v,zb7 (fun w=>zaq size R w v xs):=fun _ _ _ he h=>zaq.ext hR h he
theorem zaq.nil (w:World):zaq size R w (.slice none 0 0) []:=⟨[],zcR.nil w,Row.of_owns (World.ownsRow_nil w 0 0 size)⟩

theorem zcr (hs:0 < size) {css:List (List Value)} (h:∀ c ∈ css,c.length=size) {k j:Nat} {c:List Value} {u:Value} (hc:css[k]?=some c) (hj:c[j]?=some u):css.flatten[k * size+j]?=some u:=by
 have hjl:j < size:=by rw [<- h c (List.mem_of_getElem? hc)]; exact (List.getElem?_eq_some_iff.1 hj).1
 rw [zfL size hs css h]
 rw [show (k * size+j) / size=k by rw [Nat.mul_comm,Nat.mul_add_div hs,Nat.div_eq_of_lt hjl,Nat.add_zero],show (k * size+j) % size=j by rw [Nat.mul_comm,Nat.mul_add_mod,Nat.mod_eq_of_lt hjl],hc]
 exact hj

theorem zaq.form (hs:0 < size) {w:World} {v:Value} {xs:List X} (h:zaq size R w v xs):∃ ao cap,v=.slice ao xs.length cap/\xs.length<=cap/\cap<=maxLen/\(ao=none->cap=0) /\
  ∀ k x,xs[k]?=some x->∃ b off c,ao=some ⟨b,off,none⟩/\c.length=size/\R w c x/\∀ j u,c[j]?=some u->w.cell? ⟨b,off+(k * size+j),none⟩=some u:=by
 obtain ⟨css,he,hl,ao,cap,h2,h3,h4,h0,h5⟩:=h
 refine ⟨ao,cap,h2,h3,h4,h0,fun k x hx=>?_⟩
 have hk:k < css.length:=by rw [he.1]; exact (List.getElem?_eq_some_iff.1 hx).1
 have hc:css[k]?=some css[k]:=List.getElem?_eq_getElem hk
 obtain ⟨c1,c2⟩:=he.2 k _ x hc hx
 have hall:=he.sizes
 have h0':∃ u,css[k][0]?=some u:=⟨css[k][0]'(by rw [c1]; exact hs),List.getElem?_eq_getElem _⟩
 obtain ⟨u0,hu0⟩:=h0'
 obtain ⟨b,off,e,_⟩:=h5 _ _ (zcr hs hall hc hu0)
 refine ⟨b,off,css[k],e,c1,c2,fun j u hj=>?_⟩
 obtain ⟨b',off',e',hc'⟩:=h5 _ _ (zcr hs hall hc hj)
 rw [e] at e'
 simp only [Option.some.injEq,Addr.mk.injEq,and_true] at e'
 obtain ⟨rfl,rfl⟩:=e'
 exact hc'

theorem zeD (hs:0 < size):∀ {css:List (List Value)} (_:∀ c ∈ css,c.length=size) (k:Nat),(css.take k).flatten=css.flatten.take (k * size)
 | [],_,k=>by simp
 | c::css,h,0=>by simp
 | c::css,h,k+1=>by
  have hc:c.length=size:=h c (by simp)
  rw [List.take_succ_cons,List.flatten_cons,List.flatten_cons,zeD hs (fun c hc=>h c (by simp [hc])) k,show (k+1) * size=c.length+k * size by rw [hc,Nat.add_mul]; omega,List.take_append,List.take_of_length_le (l:=c) (by omega),show c.length+k * size - c.length=k * size by omega]
theorem zeH (hs:0 < size):∀ {css:List (List Value)} (_:∀ c ∈ css,c.length=size) (k:Nat),(css.drop k).flatten=css.flatten.drop (k * size)
 | [],_,k=>by simp
 | c::css,h,0=>by simp
 | c::css,h,k+1=>by
  have hc:c.length=size:=h c (by simp)
  rw [List.drop_succ_cons,List.flatten_cons,zeH hs (fun c hc=>h c (by simp [hc])) k,show (k+1) * size=c.length+k * size by rw [hc,Nat.add_mul]; omega,List.drop_append,List.drop_of_length_le (l:=c) (by omega),show c.length+k * size - c.length=k * size by omega,List.nil_append]

theorem zaq.take (hs:0 < size) {w:World} {ao:Option Addr} {n cap:Nat} {xs:List X} (h:zaq size R w (.slice ao n cap) xs) (k:Nat) (hk:k<=xs.length):zaq size R w (.slice ao k cap) (xs.take k):=by
 obtain ⟨css,he,hr⟩:=h
 have hn:n=xs.length:=by
  obtain ⟨_,ao',cap',e,_⟩:=hr
  simp at e
  exact e.2.1
 subst hn
 refine ⟨css.take k,he.take k,?_⟩
 rw [zeD hs he.sizes,List.length_take,Nat.min_eq_left hk]
 exact hr.take k hk

theorem zaq.drop (hs:0 < size) {w:World} {b off n cap:Nat} {xs:List X} (h:zaq size R w (.slice (some ⟨b,off,none⟩) n cap) xs) (k:Nat) (hk:k<=xs.length):zaq size R w (.slice (some ⟨b,off+k * size,none⟩) (xs.length - k) (cap - k)) (xs.drop k):=by
 obtain ⟨css,he,hl,ao',cap',h2,h3,h4,h0,h5⟩:=h
 simp only [Value.slice.injEq] at h2
 obtain ⟨rfl,rfl,rfl⟩:=h2
 refine ⟨css.drop k,he.drop k,?_⟩
 rw [zeH hs he.sizes,List.length_drop]
 refine ⟨by rw [List.length_drop,hl,Nat.sub_mul],_,_,rfl,by omega,by omega,(fun h=>by cases h),fun j u hj=>?_⟩
 rw [List.getElem?_drop] at hj
 obtain ⟨b',off',e',hc'⟩:=h5 _ u hj
 simp only [Option.some.injEq,Addr.mk.injEq,and_true] at e'
 obtain ⟨rfl,rfl⟩:=e'
 exact ⟨b,off+k * size,rfl,by rw [Nat.add_assoc]; exact hc'⟩

def zjk (base e size:Nat) (R:El X) (w:World) (v:Value) (xs:List X):Prop:=∃ css,zcR size R w css xs/\w.ownsRow base e size v xs.length css.flatten

theorem zjk.row {base e:Nat} {w:World} {v:Value} {xs:List X} (h:zjk base e size R w v xs):zaq size R w v xs:=by
 obtain ⟨css,h1,h2⟩:=h
 exact ⟨css,h1,Row.of_owns h2⟩
theorem zjk.nil (base e:Nat) (w:World):zjk base e size R w (.slice none 0 0) []:=⟨[],zcR.nil w,World.ownsRow_nil w base e size⟩
theorem zjk.ext (hR:zeV R) {base e:Nat} {w w':World} {v:Value} {xs:List X} (h:zjk base e size R w v xs) (he:Ext w w'):zjk base e size R w' v xs:=by
 obtain ⟨css,h1,h2⟩:=h
 exact ⟨css,h1.ext hR he,zaw h2 he⟩
theorem zjk.mono (hR:zeV R) (base e:Nat) (xs:List X):∀ v,zb7 (fun w=>zjk base e size R w v xs):=fun _ _ _ he h=>zjk.ext hR h he

end
end Go.Mk

/- Chapter 1, plain mathematics: cells as lists of numbers. -/
namespace Go.Mk

def zek (xs:List Int):Int:=if xs.length=0 then 0 else min (xs.getD 0 0) (((xs.length:Int) - 1) / 2)

def findIn (xs:List Int) (name:Int):Nat->Nat->Int
 | 0,_=>-1
 | n+1,i=>if xs.getD (1+2 * i) 0=name then (i:Int) else findIn xs name n (i+1)

theorem zkg {xs:List Int} {name n:Int} {k:Nat} (hlt:(k:Int) < n) (h:(xs.getD (1+2 * k) 0 == name)=true):findIn xs name (n.toNat - k) k=(k:Int):=by
 obtain ⟨m,hm⟩:∃ m,n.toNat - k=m+1:=⟨n.toNat - k - 1,by omega⟩
 rw [hm,findIn,if_pos (by simpa using h)]
theorem zjU {xs:List Int} {name n:Int} {k:Nat} (hlt:(k:Int) < n) (h:(xs.getD (1+2 * k) 0 == name)=false):findIn xs name (n.toNat - k) k=findIn xs name (n.toNat - (k+1)) (k+1):=by
 obtain ⟨m,hm⟩:∃ m,n.toNat - k=m+1:=⟨n.toNat - k - 1,by omega⟩
 rw [hm,findIn,if_neg (by simpa using h),show n.toNat - (k+1)=m by omega]
theorem zko {xs:List Int} {name n:Int} {k:Nat} (hlt:¬ (k:Int) < n):findIn xs name (n.toNat - k) k=-1:=by
 rw [show n.toNat - k=0 by omega,findIn]
def zfk (xs:List Int) (i:Nat):Int :=
 if ¬ (1<=xs.getD (1+2 * i) 0/\xs.getD (1+2 * i) 0<=255)∨¬ (-1073741824<=xs.getD (2+2 * i) 0/\xs.getD (2+2 * i) 0<=1073741824) then 3
 else if 0<=findIn xs (xs.getD (1+2 * i) 0) i 0 then 7 else 0

def zgR (xs:List Int):Nat->Nat->Int
 | 0,_=>0
 | n+1,i=>if zfk xs i=0 then zgR xs n (i+1) else zfk xs i

def zb8 (xs:List Int):Int :=
 if xs.length≠11 then 5 else if ¬ (0<=xs.getD 0 0/\xs.getD 0 0<=5) then 3 else zgR xs (xs.getD 0 0).toNat 0

def zde (xs:List Int) (p:Int×Int):List Int:=if 0<=p.1/\p.1 < (xs.length:Int) then xs.set p.1.toNat p.2 else xs
def zao (xs:List Int) (l:List (Int×Int)):List Int:=l.foldl zde xs
theorem zgF (xs:List Int) (p:Int×Int):(zde xs p).length=xs.length:=by unfold zde; split <;> simp
theorem zbe (xs:List Int) (l:List (Int×Int)):(zao xs l).length=xs.length:=by
 induction l generalizing xs with
 | nil=>rfl
 | cons p l ih=>show (zao (zde xs p) l).length=_; rw [ih,zgF]

theorem zgM (xs:List Int) (l:List (Int×Int)) (p:Int×Int):zao xs (l++[p])=zde (zao xs l) p:=by simp [zao]

def rv (us:List (Int×Int)) (k:Nat):List (Int×Int):=(List.range us.length).map fun i=>if i < k∨us.length<=i+k then us.getD (us.length - 1 - i) (0,0) else us.getD i (0,0)
def lastAt (l:List (Int×Int)) (i:Int) (n:Int):Int:=l.foldl (fun n p=>if p.1=i then p.2 else n) n
theorem zjm (l:List (Int×Int)) (p:Int×Int) (i n:Int):lastAt (l++[p]) i n=if p.1=i then p.2 else lastAt l i n:=by simp [lastAt]
theorem ziE (xs:List Int) (p:Int×Int) (i:Nat) (hi:i < xs.length):(zde xs p).getD i 0=if p.1=(i:Int) then p.2 else xs.getD i 0:=by
 unfold zde
 by_cases h:0<=p.1/\p.1 < (xs.length:Int)
 ·rw [if_pos h]
  by_cases he:p.1=(i:Int)
  ·rw [if_pos he,show p.1.toNat=i by omega]
   simp [hi]
  ·rw [if_neg he,List.getD_eq_getElem?_getD,List.getElem?_set_ne (by omega),List.getD_eq_getElem?_getD]
 ·rw [if_neg h,if_neg (by omega)]
theorem zij (xs:List Int) (l:List (Int×Int)) (i:Nat) (hi:i < xs.length):(zao xs l).getD i 0=lastAt l i (xs.getD i 0):=by
 induction l generalizing xs with
 | nil=>rfl
 | cons p l ih =>
  show (zao (zde xs p) l).getD i 0=lastAt l i (if p.1=(i:Int) then p.2 else xs.getD i 0)
  rw [ih _ (by rw [zgF]; exact hi),ziE xs p i hi]
theorem zjF (xs:List Int) (l:List (Int×Int)) (k:Nat) (hk:k < xs.length):(zao xs l).take (k+1)=(zao xs l).take k++[lastAt l k (xs.getD k 0)]:=by
 rw [<- zij xs l k hk,List.take_add_one]
 have:k < (zao xs l).length:=by rw [zbe]; exact hk
 simp [this]

end Go.Mk

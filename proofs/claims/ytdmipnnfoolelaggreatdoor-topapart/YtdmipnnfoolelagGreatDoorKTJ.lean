/- zbb of the proof, merged: T0. -/
import Derived.Test.YtdmipnnfoolelagGreatDoorKTI
import Derived.Test.YtdmipnnfoolelagGreatDoorKTB
import Derived.Test.YtdmipnnfoolelagGreatDoorShelf
import Derived.Lib.LaidTab
import Derived.Lib.SmallJoins
set_option maxRecDepth 100000

namespace Go.Proofs.YtdmipnnfoolelagGreatDoor
open Go.RowKit Go.Mk

abbrev S (l:Bs):Value:=.string ⟨l.toArray⟩

def Strs (w:World) (v:Value) (l:List Bs):Prop:=Row w 1 v l.length (l.map S)

theorem Strs.ext {w w':World} {v:Value} {l:List Bs} (h:Strs w v l) (he:Ext w w'):Strs w' v l:=Row.ext h he

theorem Strs.form {w:World} {v:Value} {l:List Bs} (h:Strs w v l):∃ ao cap,v=.slice ao l.length cap/\l.length<=cap/\cap<=maxLen /\
  ∀ k,k < l.length->∃ b off,ao=some ⟨b,off,none⟩/\w.cell? ⟨b,off+k,none⟩=some (S (l.getD k [])):=by
 obtain ⟨_,ao,cap,h2,h3,h4,_,h5⟩:=h
 refine ⟨ao,cap,h2,h3,h4,fun k hk=>?_⟩
 exact h5 k _ (by simp [hk])

theorem zr6 (l:List Bs):∀ u ∈ l.map S,u.oneCell'=true:=by
 intro u hu
 obtain ⟨x,_,rfl⟩:=List.mem_map.1 hu
 rfl

theorem zlP {w:World} {base e n:Nat} {v:Value} {l:List Bs} (h:w.ownsRow base e 1 v n (l.map S)):Strs w v l:=by
 have hl:l.length=n:=by simpa using h.1
 subst hl
 exact Row.of_owns h

abbrev A (c:Cl):Value:=.agg #[I c.kind,I c.name,I c.other,I c.n]

def zb4 (l:List Cl):List Value:=l.flatMap fun c=>[I c.kind,I c.name,I c.other,I c.n]

theorem zkh (l:List Cl):(zb4 l).length=l.length * 4:=by
 unfold zb4
 induction l with
 | nil=>rfl
 | cons p l ih=>simp [List.flatMap_cons,ih]; omega

theorem zj3 (l m:List Cl):zb4 (l++m)=zb4 l++zb4 m:=by simp [zb4]

theorem zqi (l:List Cl) (k:Nat) (h:k < l.length):(zb4 l)[k * 4]?=some (I (l.getD k zeroCl).kind)/\(zb4 l)[k * 4+1]?=some (I (l.getD k zeroCl).name)/\(zb4 l)[k * 4+2]?=some (I (l.getD k zeroCl).other)/\(zb4 l)[k * 4+3]?=some (I (l.getD k zeroCl).n):=by
 induction l generalizing k with
 | nil=>simp at h
 | cons p l ih =>
  cases k with
  | zero=>exact ⟨rfl,rfl,rfl,rfl⟩
  | succ k =>
   have:=ih k (by simpa using h)
   rw [show (k+1) * 4=k * 4+4 by omega,show k * 4+4+1=k * 4+1+4 by omega,show k * 4+4+2=k * 4+2+4 by omega,show k * 4+4+3=k * 4+3+4 by omega]
   exact this

def Cls (w:World) (v:Value) (l:List Cl):Prop:=Row w 4 v l.length (zb4 l)

theorem Cls.ext {w w':World} {v:Value} {l:List Cl} (h:Cls w v l) (he:Ext w w'):Cls w' v l:=Row.ext h he

theorem Cls.form {w:World} {v:Value} {l:List Cl} (h:Cls w v l):∃ ao cap,v=.slice ao l.length cap/\l.length<=cap/\cap<=maxLen /\
  ∀ k,k < l.length->∃ b off,ao=some ⟨b,off,none⟩/\w.cell? ⟨b,off+k * 4,none⟩=some (I (l.getD k zeroCl).kind)/\w.cell? ⟨b,off+k * 4+1,none⟩=some (I (l.getD k zeroCl).name) /\
   w.cell? ⟨b,off+k * 4+2,none⟩=some (I (l.getD k zeroCl).other)/\w.cell? ⟨b,off+k * 4+3,none⟩=some (I (l.getD k zeroCl).n):=by
 obtain ⟨_,ao,cap,h2,h3,h4,_,h5⟩:=h
 refine ⟨ao,cap,h2,h3,h4,fun k hk=>?_⟩
 obtain ⟨c1,c2,c3,c4⟩:=zqi l k hk
 obtain ⟨b,off,e,d1⟩:=h5 _ _ c1
 obtain ⟨b2,off2,e2,d2⟩:=h5 _ _ c2
 obtain ⟨b3,off3,e3,d3⟩:=h5 _ _ c3
 obtain ⟨b4,off4,e4,d4⟩:=h5 _ _ c4
 rw [e] at e2 e3 e4
 simp only [Option.some.injEq,Addr.mk.injEq,and_true] at e2 e3 e4
 obtain ⟨rfl,rfl⟩:=e2
 obtain ⟨rfl,rfl⟩:=e3
 obtain ⟨rfl,rfl⟩:=e4
 exact ⟨b,off,e,d1,d2,d3,d4⟩

theorem znP (l:List Cl):∀ u ∈ zb4 l,u.oneCell'=true:=by
 intro u hu
 unfold zb4 at hu
 rw [List.mem_flatMap] at hu
 obtain ⟨p,_,hp⟩:=hu
 simp at hp
 rcases hp with rfl | rfl | rfl | rfl <;> rfl

theorem zmY {w:World} {base e n:Nat} {v:Value} {l:List Cl} (h:w.ownsRow base e 4 v n (zb4 l)):Cls w v l:=by
 have hl:l.length=n:=by have:=h.1; rw [zkh] at this; omega
 subst hl
 exact Row.of_owns h

def zrz (w:World) (v:Value) (b:Nat) (fs:List Nat):Prop:=Row w 1 v fs.length (fs.map fun j=>.pointer (some ⟨b,j,none⟩))

theorem zrz.ext {w w':World} {v:Value} {b:Nat} {fs:List Nat} (h:zrz w v b fs) (he:Ext w w'):zrz w' v b fs:=Row.ext h he

theorem zrz.form {w:World} {v:Value} {d:Nat} {fs:List Nat} (h:zrz w v d fs):∃ ao cap,v=.slice ao fs.length cap/\fs.length<=cap/\cap<=maxLen /\
  ∀ k,k < fs.length->∃ b off,ao=some ⟨b,off,none⟩/\w.cell? ⟨b,off+k,none⟩=some (.pointer (some ⟨d,fs.getD k 0,none⟩)):=by
 obtain ⟨_,ao,cap,h2,h3,h4,_,h5⟩:=h
 refine ⟨ao,cap,h2,h3,h4,fun k hk=>?_⟩
 exact h5 k _ (by simp [hk])

/-! ### The library's variables, which stay -/

theorem zly {P:Program} {w w':World} {n:String} {cs:Array Value} (h:w.var? P n=some cs) (he:Ext w w'):w'.var? P n=some cs:=by
 unfold World.var? at h ⊢
 cases hg:P.globalNamed n with
 | none=>simp [hg] at h
 | some g =>
  rw [hg] at h
  simp only [Option.bind_some] at h ⊢
  have hlt:g < w.heap.size:=by
   by_cases hb:g < w.heap.size
   ·exact hb
   ·rw [Array.getElem?_eq_none (Nat.le_of_not_lt hb)] at h; cases h
  rw [he.block g hlt]
  exact h

def zen (w:World):Prop:=Lib.TabIs Tryz.prog w "internal/strconv.uint64pow10" .u64 Lib.pow10Tab/\(∃ tp p,w.var? Tryz.prog "strconv.ErrSyntax"=some #[.iface tp p])/\∃ tp p,w.var? Tryz.prog "strconv.ErrRange"=some #[.iface tp p]

theorem zen.ext {w w':World} (h:zen w) (he:Ext w w'):zen w':=by
 obtain ⟨h1,⟨t1,p1,h2⟩,⟨t2,p2,h3⟩⟩:=h
 exact ⟨zly h1 he,⟨t1,p1,zly h2 he⟩,⟨t2,p2,zly h3 he⟩⟩

/-! ### Numbers -/

theorem zsG {a w:World} (h:Ext a w) (os:Array Obj):Ext a (Sort.grow w os):=by
 refine ⟨h.os,h.tape,h.output,Nat.le_trans h.size (by simp [Sort.grow]),fun k hk=>?_⟩
 have hk2:k < w.heap.size:=Nat.lt_of_lt_of_le hk h.size
 show (w.heap++os)[k]?=_
 rw [Array.getElem?_append_left hk2]
 exact h.block k hk

theorem zmG (n:Int) (h0:-9223372036854775808<=n) (h1:n<=9223372036854775807) (w:World) (hv:zen w) :
  Calls Tryz.prog 36 #[I n] w fun e w'=>e=.returned (S (Lib.itoa n))/\Ext w w' :=
 (Any.strconv_Itoa Tryz.laysM171 n h0 h1 w hv.1).mono fun e w' ⟨he,k,os,hw⟩=>⟨he,by rw [hw]; exact zsG (Ext.of_drewN w k) os⟩

theorem zsU (s:Bs) (hs:s.length<=1000000000) (v:Int) (h:Lib.atoiAll s=.ok v) (w:World) :
  Calls Tryz.prog 81 #[S s] w fun e w'=>e=.returned (.tuple #[I v,.nilIface])/\Ext w w' :=
 (Any.strconv_Atoi_ok Tryz.laysC172 ⟨s.toArray⟩ (by simp [ByteArray.size]; omega) v (by simpa using h) w).mono fun e w' ⟨he,hw⟩=>⟨he,by
  rcases hw with rfl | ⟨t,rfl⟩
  ·exact Ext.refl _
  ·exact Lib.bytesWorld_below _ _ _⟩

theorem zrS (s:Bs) (hs:s.length<=1000000000) (h:∀ v,Lib.atoiAll s≠.ok v) (w:World) (hv:zen w) :
  Calls Tryz.prog 81 #[S s] w fun e w'=>∃ n tp p,e=.returned (.tuple #[I n,.iface tp p])/\Ext w w':=by
 obtain ⟨_,⟨t1,p1,h2⟩,⟨t2,p2,h3⟩⟩:=hv
 by_cases ha:Lib.atoiAll s=.range
 ·exact (Any.strconv_Atoi_range_var Tryz.laysC172 ⟨s.toArray⟩ (by simp [ByteArray.size]; omega) (by simpa using ha) t2 p2 w h3).mono fun e w' ⟨N,he,_,_,hb⟩=>⟨_,_,_,he,hb⟩
 ·exact (Any.strconv_Atoi_syntax_var Tryz.laysC172 ⟨s.toArray⟩ (by simp [ByteArray.size]; omega) (by cases hx:Lib.atoiAll s <;> simp_all) t1 p1 w h2).mono fun e w' ⟨N,he,_,_,hb⟩=>⟨_,_,_,he,hb⟩

theorem zqS {s:Bs} {v:Int} (h:Lib.atoiAll s=.ok v):-9223372036854775808<=v/\v<=9223372036854775807:=Lib.atoiAll_bounds h

theorem zmO {s:Bs} {v:Int} (h:Lib.atoiAll s=.ok v):zdx s=if Lib.itoa v=s then some v else none:=by
 unfold zdx
 rw [h]
theorem zqo {s:Bs} (h:∀ v,Lib.atoiAll s≠.ok v):zdx s=none:=by
 unfold zdx
 split
 ·rename_i v hv; exact absurd hv (h v)
 ·rfl

end Go.Proofs.YtdmipnnfoolelagGreatDoor

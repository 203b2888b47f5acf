/- Texts of the proof, merged: S4 W1 W2 W3 W4. -/
import Derived.Test.YtdmipnnfoolelafGreatKTA
import Derived.Test.YtdmipnnfoolelafGreatKTJ
import Derived.Test.YtdmipnnfoolelafGreatKTD
import Derived.Test.YtdmipnnfoolelafGreatKTH
import Derived.BigRegion
set_option maxHeartbeats 4000000
set_option maxRecDepth 100000

namespace Go.Proofs.YtdmipnnfoolelafGreat
open Go.RowKit Go.Mk

/-! Answers, as they are put. -/

theorem zp6 {l:List An} {a:An} (h:∀ x ∈ l,x.client≠a.client):zci l a=l++[a]:=by
 induction l with
 | nil=>rfl
 | cons x l ih =>
  unfold zci
  rw [if_neg (h x (by simp)),ih (fun y hy=>h y (by simp [hy]))]
  rfl
theorem zr3 {l:List An} {x a:An} (h:∀ x ∈ l,x.client≠a.client) (hx:x.client=a.client):zci (l++[x]) a=l++[a]:=by
 induction l with
 | nil=>exact if_pos hx
 | cons y l ih =>
  have hy:¬ y.client=a.client:=h y (by simp)
  show (if y.client=a.client then a::(l++[x]) else y::zci (l++[x]) a)=_
  rw [if_neg hy,ih (fun y hy=>h y (by simp [hy]))]
  rfl
theorem zpE {l:List An} {x a:An} (h:∃ y ∈ l,y.client=a.client):zci (l++[x]) a=zci l a++[x]:=by
 induction l with
 | nil=>obtain ⟨y,hy,_⟩:=h; cases hy
 | cons y l ih =>
  show (if y.client=a.client then a::(l++[x]) else y::zci (l++[x]) a)=(if y.client=a.client then a::l else y::zci l a)++[x]
  by_cases hy:y.client=a.client
  ·rw [if_pos hy,if_pos hy]; rfl
  ·rw [if_neg hy,if_neg hy,ih]
   ·rfl
   ·obtain ⟨z,hz,e⟩:=h
    rcases List.mem_cons.1 hz with rfl | hz
    ·exact absurd e hy
    ·exact ⟨z,hz,e⟩
theorem zrW {l:List An} {a:An} (h:∃ y ∈ l,y.client=a.client):(zci l a).length=l.length:=by
 induction l with
 | nil=>obtain ⟨y,hy,_⟩:=h; cases hy
 | cons y l ih =>
  show (if y.client=a.client then a::l else y::zci l a).length=_
  by_cases hy:y.client=a.client
  ·rw [if_pos hy]; rfl
  ·rw [if_neg hy,List.length_cons,ih]
   ·rfl
   ·obtain ⟨z,hz,e⟩:=h
    rcases List.mem_cons.1 hz with rfl | hz
    ·exact absurd e hy
    ·exact ⟨z,hz,e⟩

def zbB (l:List An):List Value:=l.flatMap fun x=>[I x.client,I x.token,I x.reply.err,I x.reply.n]
theorem zht (l:List An):(zbB l).length=l.length * 4:=by
 unfold zbB
 induction l with
 | nil=>rfl
 | cons p l ih=>simp [List.flatMap_cons,ih]; omega
theorem zdl (l m:List An):zbB (l++m)=zbB l++zbB m:=by simp [zbB]
theorem zdX (l:List An):∀ u ∈ zbB l,u.oneCell'=true:=by
 intro u hu
 unfold zbB at hu
 rw [List.mem_flatMap] at hu
 obtain ⟨p,_,hp⟩:=hu
 simp at hp
 rcases hp with rfl | rfl | rfl | rfl <;> rfl
theorem zes {base e n:Nat} {v:Value} {l:List An} {w:World} (h:w.ownsRow base e 4 v n (zbB l)):Rd (fun k=>base<=k) (fun w=>zas 4 zhL w v l) w:=by
 have hl:l.length=n:=by have:=h.1; rw [zht] at this; omega
 subst hl
 exact (zdV h).imp fun w h=>(zdx (f:=fun (x:An)=>[I x.client,I x.token,I x.reply.err,I x.reply.n]) (fun _=>rfl)).2 h

theorem Tryz.infoAnswer:(Tryz.prog.info? 97).map (fun i=>(i.zero,i.size,i.bytes))=some (some (.agg #[.int .i64 0,.int .i64 0,.int .i64 0,.int .i64 0]),4,32):=by kernel_rfl
theorem Tryz.infoRequest:(Tryz.prog.info? 36).map (fun i=>(i.zero,i.size,i.bytes))=some (some (.agg #[.int .i64 0,.int .i64 0,.int .i64 0,.int .i64 0,.int .i64 0,.int .i64 0]),6,48):=by kernel_rfl

def zhC (l:List An) (a:An) (k:Nat) (d:Bool) (m:List An):Prop :=
 (d=false/\(∀ x ∈ l.take k,x.client≠a.client)/\m=l.take k)∨(d=true/\(∃ x ∈ l.take k,x.client=a.client)/\m=zci (l.take k) a)
theorem zhC.len {l:List An} {a:An} {k:Nat} {d:Bool} {m:List An} (h:zhC l a k d m) (hk:k<=l.length):m.length=k:=by
 rcases h with ⟨_,_,rfl⟩ | ⟨_,h,rfl⟩
 ·rw [List.length_take]; omega
 ·rw [zrW h,List.length_take]; omega
theorem zhC.hit {l:List An} {a x:An} {k:Nat} {m:List An} (h:zhC l a k false m) (hx:l[k]?=some x) (hc:x.client=a.client):zhC l a (k+1) true (m++[a]):=by
 rcases h with ⟨_,h,rfl⟩ | ⟨h,_⟩
 ·right
  rw [List.take_add_one,hx]
  exact ⟨rfl,⟨x,by simp,hc⟩,(zr3 h hc).symm⟩
 ·cases h
theorem zhC.miss {l:List An} {a x:An} {k:Nat} {m:List An} (h:zhC l a k false m) (hx:l[k]?=some x) (hc:¬ x.client=a.client):zhC l a (k+1) false (m++[x]):=by
 rcases h with ⟨_,h,rfl⟩ | ⟨h,_⟩
 ·left
  rw [List.take_add_one,hx]
  refine ⟨rfl,fun y hy=>?_,rfl⟩
  simp at hy
  rcases hy with hy | rfl
  ·exact h y hy
  ·exact hc
 ·cases h
theorem zhC.after {l:List An} {a x:An} {k:Nat} {m:List An} (h:zhC l a k true m) (hx:l[k]?=some x):zhC l a (k+1) true (m++[x]):=by
 rcases h with ⟨h,_⟩ | ⟨_,h,rfl⟩
 ·cases h
 ·right
  rw [List.take_add_one,hx]
  obtain ⟨y,hy,e⟩:=h
  exact ⟨rfl,⟨y,by simp [hy],e⟩,(zpE ⟨y,hy,e⟩).symm⟩
theorem zhC.done {l:List An} {a:An} {m:List An} (h:zhC l a l.length true m):m=zci l a:=by
 rcases h with ⟨h,_⟩ | ⟨_,h,rfl⟩
 ·cases h
 ·rw [List.take_length]
theorem zhC.last {l:List An} {a:An} {m:List An} (h:zhC l a l.length false m):m++[a]=zci l a:=by
 rcases h with ⟨_,h,rfl⟩ | ⟨h,_⟩
 ·rw [List.take_length] at *
  exact (zp6 h).symm
 ·cases h

theorem znd {w wx:World} {o1 o2 o3 o4 o5:Obj} (h:Ext (((((w.alloc o1).alloc o2).alloc o3).alloc o4).alloc o5) wx):wx.heap[w.heap.size]?=some o1/\wx.heap[w.heap.size+1]?=some o2/\wx.heap[w.heap.size+1+1]?=some o3/\wx.heap[w.heap.size+1+1+1]?=some o4/\wx.heap[w.heap.size+1+1+1+1]?=some o5:=by
 have h3:Ext (((w.alloc o1).alloc o2).alloc o3) wx:=(((Ext.refl _).alloc o4).alloc o5).trans h
 obtain ⟨a1,a2,a3⟩:=zfr h3
 have a4:=zc8 h
 have a5:=zcD h
 exact ⟨a1,a2,a3,by simpa using a4,by simpa using a5⟩

theorem zix {w:World} (e:TypeId) (y:An):Row (w.alloc (.cells #[I y.client,I y.token,I y.reply.err,I y.reply.n] e)) 4 (.slice (some ⟨w.heap.size,0,none⟩) 1 1) 1 (zbB [y]):=by
 have:=World.ownsRow_lit (base:=0) (e:=e) (size:=4) w #[I y.client,I y.token,I y.reply.err,I y.reply.n] 1 (Nat.zero_le _) (by decide) rfl
 exact Row.of_owns this
theorem zg0 {w:World} (o:Obj) (e:TypeId) (y:An):Row ((w.alloc o).alloc (.cells #[I y.client,I y.token,I y.reply.err,I y.reply.n] e)) 4 (.slice (some ⟨w.heap.size+1,0,none⟩) 1 1) 1 (zbB [y]):=by
 have:=zix (w:=w.alloc o) e y
 have e2:(w.alloc o).heap.size=w.heap.size+1:=by simp
 rw [e2] at this
 exact this

theorem zel (l:List Rq):∀ u ∈ zbE l,u.oneCell'=true:=by
 intro u hu
 unfold zbE at hu
 rw [List.mem_flatMap] at hu
 obtain ⟨p,_,hp⟩:=hu
 simp at hp
 rcases hp with rfl | rfl | rfl | rfl | rfl | rfl <;> rfl
theorem zfw (l m:List Rq):zbE (l++m)=zbE l++zbE m:=by simp [zbE]
theorem zhR {base e n:Nat} {v:Value} {l:List Rq} {w:World} (h:w.ownsRow base e 6 v n (zbE l)):Rd (fun k=>base<=k) (fun w=>zas 6 zhn w v l) w:=by
 have hl:l.length=n:=by have:=h.1; rw [zkG] at this; omega
 subst hl
 exact (zdV h).imp fun w h=>zei.2 h

theorem zi1 (c u a p:Value) (s:St) (rc rt rk ra ro rn x n:Int) (w:World) (A:Nat->Prop) (h:Rd A (fun w=>zcn w [c,u,a,p] s) w) (hl:s.answers.length<=1000) (hpl:s.past.length<=1000000) :
  zaK Tryz.prog 63 #[.agg #[c,u,a,p],RQ ⟨rc,rt,⟨rk,ra,ro,rn⟩⟩,.agg #[I x,I n]] w A (fun r w'=>Agg zcn (zb3 s ⟨rc,rt,⟨rk,ra,ro,rn⟩⟩ ⟨x,n⟩) r w'):=by
 unfold zaK;obtain ⟨_,_,_,_,e,h1,h2,h3,h4⟩:=zez h;simp at e;obtain ⟨rfl,rfl,rfl,rfl⟩:=e;clear h h2;obtain ⟨ca,cc,rfl⟩:=zao h1.o;obtain ⟨pa,pc,rfl⟩:=zag h4.o;obtain ⟨aa,ac,rfl,g1,g2,g3⟩:=zfT h3.o;unfold maxLen at g2;have HG:=zhd g3;have H1:=zhd h1;have H4:=zhd h4;clear g3 h1 h3 h4;have e0:Ext w (((((w.alloc (.cells #[.slice ca s.cells.length cc,u,.slice aa s.answers.length ac,.slice pa s.past.length pc] 31)).alloc (.cells #[I rc,I rt,I rk,I ra,I ro,I rn] 36)).alloc (.cells #[I x,I n] 39)).alloc (.cells zT4 31)).alloc (.cells #[I rc,I rt,I x,I n] 97)):=(((((Ext.refl w).alloc _).alloc _).alloc _).alloc _).alloc _;have HB:=zhd (fun wx (h:Ext (((((w.alloc (.cells #[.slice ca s.cells.length cc,u,.slice aa s.answers.length ac,.slice pa s.past.length pc] 31)).alloc (.cells #[I rc,I rt,I rk,I ra,I ro,I rn] 36)).alloc (.cells #[I x,I n] 39)).alloc (.cells zT4 31)).alloc (.cells #[I rc,I rt,I x,I n] 97)) wx)=>znd h);have hsz:(((((w.alloc (.cells #[.slice ca s.cells.length cc,u,.slice aa s.answers.length ac,.slice pa s.past.length pc] 31)).alloc (.cells #[I rc,I rt,I rk,I ra,I ro,I rn] 36)).alloc (.cells #[I x,I n] 39)).alloc (.cells zT4 31)).alloc (.cells #[I rc,I rt,I x,I n] 97)).heap.size=w.heap.size+5:=by simp
 have HSZ:=zhd hsz;clear hsz;obtain ⟨i0,hi,hz0,hz1,hz2⟩:=info_parts Tryz.infoAnswer;have HI:=zhd hi;clear hi;go_enter Tryz.func63,Tryz.ntmps63
 go_wp2
 generalize hw1:((((w.alloc (.cells #[.slice ca s.cells.length cc,u,.slice aa s.answers.length ac,.slice pa s.past.length pc] 31)).alloc (.cells #[I rc,I rt,I rk,I ra,I ro,I rn] 36)).alloc (.cells #[I x,I n] 39)).alloc (.cells zT4 31)).alloc (.cells #[I rc,I rt,I x,I n] 97)=w1 at *;clear hw1;go_loopw [8,9,21] (fun o d i wr=>∃ (k:Nat) (m:List An) (db:Bool),k<=s.answers.length/\i=I k/\d=.bool db/\zhC s.answers ⟨rc,rt,⟨x,n⟩⟩ k db m/\wr.ownsRow w1.heap.size 97 4 o k (zbB m)/\Ext w1 wr) (fun _ _ i _=>s.answers.length - (intOf i).toNat)
 case atStart=>exact ⟨0,[],false,by omega,rfl,rfl,.inl ⟨rfl,fun x hx=>by simp at hx,by simp⟩,World.ownsRow_nil _ _ _ _,Ext.refl _⟩
 case round =>
  obtain ⟨k,m,db,hk,rfl,rfl,hput,hown,he⟩:=hrel;by_cases hlt:k < s.answers.length
  ·obtain ⟨y,hy⟩:∃ y,s.answers[k]?=some y:=⟨s.answers[k],List.getElem?_eq_getElem hlt⟩;obtain ⟨b,off,rfl,c0,c1,c2,c3⟩:=HG.o k y hy;have HY:=zhd hy;clear hy;have mr:Ext w wr:=e0.trans he;replace c0:=mr.cell c0;replace c1:=mr.cell c1;replace c2:=mr.cell c2;replace c3:=mr.cell c3;obtain ⟨yc,yt,⟨ye,yn⟩⟩:=y;obtain ⟨-,b1,-,-,b4⟩:=HB.o wr he;obtain ⟨⟨q0,q1,q2,q3,q4,q5⟩,-⟩:=box6 b1;obtain ⟨z0,z1,z2,z3,-⟩:=zb4 b4;replace q0:=fun o=>((Ext.refl wr).alloc o).cell q0;replace z0:=fun o=>((Ext.refl wr).alloc o).cell z0;replace z1:=fun o=>((Ext.refl wr).alloc o).cell z1;replace z2:=fun o=>((Ext.refl wr).alloc o).cell z2;replace z3:=fun o=>((Ext.refl wr).alloc o).cell z3;have HO:=zhd hown;have HPT:=zhd hput;clear hown hput b1 b4 q1 q2 q3 q4 q5;cases db
   ·by_cases hc:yc=rc
    ·have hb:(yc == rc)=true:=by simpa using hc
     have HC:=zhd hc;clear hc;go_wp2_with (at_builtin; refine zbG ?_)
     unfold Hid;have hlit:=zg0 (w:=wr) (.cells #[I rc,I rt,I x,I n] 97) 97 ⟨rc,rt,⟨x,n⟩⟩;have hle:=he.size;refine zaA _ rfl (.tmp 35) (.tmp 37) 28 rfl w1.heap.size 97 i0 (.agg #[.int .i64 0,.int .i64 0,.int .i64 0,.int .i64 0]) 4 32 zna HI.o hz0 hz1 hz2 rfl (by decide) u8 k (zbB m) rfl ((HO.o.alloc _).alloc _) _ rfl 1 _ hlit (zdX _) (by omega) (by decide) (by simp; omega) ?_;intro v' w' ho hg;have he2:Ext w1 w':=((he.alloc _).alloc _).grown hg (fun j hj=>(HO.o.lt j hj).1);clear hg hlit c0 c1 c2 c3 q0 z0 z1 z2 z3;go_wp2
     go_roundw
     case rel=>exact ⟨k+1,m++[⟨rc,rt,⟨x,n⟩⟩],true,by omega,by go_num,rfl,HPT.o.hit HY.o HC.o,by rw [zdl]; exact ho,he2⟩
     case measure=>simp [intOf]; omega
    ·have hb:(yc == rc)=false:=by simpa using hc
     have HC:=zhd hc;clear hc;go_wp2_with (at_builtin; refine zbG ?_)
     unfold Hid;have hlit:=zg0 (w:=wr) (.cells #[I yc,I yt,I ye,I yn] 97) 97 ⟨yc,yt,⟨ye,yn⟩⟩;have hle:=he.size;refine zaA _ rfl (.tmp 35) (.tmp 37) 28 rfl w1.heap.size 97 i0 (.agg #[.int .i64 0,.int .i64 0,.int .i64 0,.int .i64 0]) 4 32 zna HI.o hz0 hz1 hz2 rfl (by decide) u8 k (zbB m) rfl ((HO.o.alloc _).alloc _) _ rfl 1 _ hlit (zdX _) (by omega) (by decide) (by simp; omega) ?_;intro v' w' ho hg;have he2:Ext w1 w':=((he.alloc _).alloc _).grown hg (fun j hj=>(HO.o.lt j hj).1);clear hg hlit c0 c1 c2 c3 q0 z0 z1 z2 z3;go_wp2
     go_roundw
     case rel=>exact ⟨k+1,m++[⟨yc,yt,⟨ye,yn⟩⟩],false,by omega,by go_num,rfl,HPT.o.miss HY.o HC.o,by rw [zdl]; exact ho,he2⟩
     case measure=>simp [intOf]; omega
   ·by_cases hc:yc=rc
    ·have hb:(yc == rc)=true:=by simpa using hc
     clear hc;go_wp2_with (at_builtin; refine zbG ?_)
     unfold Hid;have hlit:=zg0 (w:=wr) (.cells #[I yc,I yt,I ye,I yn] 97) 97 ⟨yc,yt,⟨ye,yn⟩⟩;have hle:=he.size;refine zaA _ rfl (.tmp 35) (.tmp 37) 28 rfl w1.heap.size 97 i0 (.agg #[.int .i64 0,.int .i64 0,.int .i64 0,.int .i64 0]) 4 32 zna HI.o hz0 hz1 hz2 rfl (by decide) u8 k (zbB m) rfl ((HO.o.alloc _).alloc _) _ rfl 1 _ hlit (zdX _) (by omega) (by decide) (by simp; omega) ?_;intro v' w' ho hg;have he2:Ext w1 w':=((he.alloc _).alloc _).grown hg (fun j hj=>(HO.o.lt j hj).1);clear hg hlit c0 c1 c2 c3 q0 z0 z1 z2 z3;go_wp2
     go_roundw
     case rel=>exact ⟨k+1,m++[⟨yc,yt,⟨ye,yn⟩⟩],true,by omega,by go_num,rfl,HPT.o.after HY.o,by rw [zdl]; exact ho,he2⟩
     case measure=>simp [intOf]; omega
    ·have hb:(yc == rc)=false:=by simpa using hc
     clear hc;go_wp2_with (at_builtin; refine zbG ?_)
     unfold Hid;have hlit:=zg0 (w:=wr) (.cells #[I yc,I yt,I ye,I yn] 97) 97 ⟨yc,yt,⟨ye,yn⟩⟩;have hle:=he.size;refine zaA _ rfl (.tmp 35) (.tmp 37) 28 rfl w1.heap.size 97 i0 (.agg #[.int .i64 0,.int .i64 0,.int .i64 0,.int .i64 0]) 4 32 zna HI.o hz0 hz1 hz2 rfl (by decide) u8 k (zbB m) rfl ((HO.o.alloc _).alloc _) _ rfl 1 _ hlit (zdX _) (by omega) (by decide) (by simp; omega) ?_;intro v' w' ho hg;have he2:Ext w1 w':=((he.alloc _).alloc _).grown hg (fun j hj=>(HO.o.lt j hj).1);clear hg hlit c0 c1 c2 c3 q0 z0 z1 z2 z3;go_wp2
     go_roundw
     case rel=>exact ⟨k+1,m++[⟨yc,yt,⟨ye,yn⟩⟩],true,by omega,by go_num,rfl,HPT.o.after HY.o,by rw [zdl]; exact ho,he2⟩
     case measure=>simp [intOf]; omega
  ·have hkl:k=s.answers.length:=by omega
   subst hkl;clear hlt hk;have HO:=zhd hown;have HPT:=zhd hput;clear hown hput;cases db
   ·obtain ⟨b0,b1,-,b3,b4⟩:=HB.o wr he;obtain ⟨z0,z1,z2,z3,-⟩:=zb4 b4;go_wp2_with (at_builtin; refine zbG ?_)
    unfold Hid;have hlit:=zix (w:=wr) 97 ⟨rc,rt,⟨x,n⟩⟩;have hle:=he.size;refine zaA _ rfl (.tmp 42) (.tmp 44) 28 rfl w1.heap.size 97 i0 (.agg #[.int .i64 0,.int .i64 0,.int .i64 0,.int .i64 0]) 4 32 zna HI.o hz0 hz1 hz2 rfl (by decide) u8 s.answers.length (zbB m) rfl (HO.o.alloc _) _ rfl 1 _ hlit (zdX _) (by omega) (by decide) (by simp; omega) ?_;intro v' wz ho hg;have he2:Ext w1 wz:=(he.alloc _).grown hg (fun j hj=>(HO.o.lt j hj).1);rw [<- zdl,HPT.o.last] at ho;clear hg hlit z0 z1 z2 z3 b0 b1 b3 b4;obtain ⟨b0,b1,-,b3,-⟩:=HB.o wz he2;obtain ⟨x0,x1,x2,x3,-⟩:=zb4 b0;obtain ⟨⟨r0,r1,r2,r3,r4,r5⟩,-⟩:=box6 b1;clear b0 b1;obtain ⟨va,vc,hvs⟩:=zag (zes ho).o;subst hvs;have HO2:=zhd ho;clear ho;obtain ⟨i1,hi1,hy0,hy1,hy2⟩:=info_parts Tryz.infoRequest;have HI1:=zhd hi1;clear hi1;have mz:Ext w wz:=e0.trans he2;have HP4:=zhd (zei.1 (H4.o.o.ext zjT mz));go_wp2_with fail
    refine zcA 9 [none,none,none,some (.inr (zdr wz.heap.size 36 6 0 [])),none,none,some (.inr fun v wx=>wx.ownsRow wz.heap.size 36 6 v (0+s.past.length) ([]++zbE s.past)),none,some (.inr fun v wx=>Row wx 6 v 1 (zbE [⟨rc,rt,⟨rk,ra,ro,rn⟩⟩]))] (fun v wx=>wx.ownsRow wz.heap.size 36 6 v (0+s.past.length+1) ([]++zbE s.past++zbE [⟨rc,rt,⟨rk,ra,ro,rn⟩⟩])) (by kernel_rfl) (by kernel_rfl) (by kernel_rfl) ?_ (fun v=>zct _ _ _ _ _ v) ?_
    ·exact ⟨trivial,trivial,trivial,zgS _ _ _ _ _,trivial,trivial,zct _ _ _ _ _,trivial,fun _ _ _ he h=>Row.ext h he,trivial⟩
    (refine zap (fun K hK=>?_); go_simp; first | refine hK _ ?_ | refine ⟨(fun h=>by cases h),hK _ ?_⟩; clear hK K)
    refine zay (.slice ca s.cells.length cc) rfl (fun w' hw'=>by have z0:=hw'.cell x0; go_simp) ?_;refine zai fun K h=>?_; go_simp; refine h _ ?_; clear h K;(refine zap (fun K hK=>?_); go_simp; first | refine hK _ ?_ | refine ⟨(fun h=>by cases h),hK _ ?_⟩; clear hK K)
    refine zbb _ rfl (fun w' hw' hk=>?_) (fun v49=>?_)
    ·have hsz:=hw'.size;clear hk;unfold zaQ;go_simp
     exact ⟨(Ext.refl _).alloc _,zfM #[] 0 hsz (by decide) rfl⟩
    refine zai fun K h=>?_; go_simp; refine h _ ?_; clear h K;(refine zap (fun K hK=>?_); go_simp; first | refine hK _ ?_ | refine ⟨(fun h=>by cases h),hK _ ?_⟩; clear hK K)
    refine zay (.slice pa s.past.length pc) rfl (fun w' hw'=>by have z0:=hw'.cell x3; go_simp) ?_;refine zai fun K h=>?_; go_simp; refine h _ ?_; clear h K;refine zbb _ rfl (fun w' hw' hk=>?_) (fun v52=>?_)
    ·have h49:zdr wz.heap.size 36 6 0 [] v49 w':=hk 49 (by decide);obtain ⟨vv,ww,hrun,hoo,hee⟩:=zcf (P:=Tryz.prog) w' wz.heap.size 29 29 36 i1 _ 6 48 zn1 HI1.o hy0 hy1 hy2 rfl (by decide) v49 0 _ h49 (.slice pa s.past.length pc) s.past.length _ (HP4.o.ext hw') (zel _) (by omega) (by decide) hw'.size;exact zdc rfl rfl rfl hrun hee hoo
    refine zai fun K h=>?_; go_simp; refine h _ ?_; clear h K;refine zay (RQ ⟨rc,rt,⟨rk,ra,ro,rn⟩⟩) rfl (fun w' hw'=>by have z0:=hw'.cell r0; have z1:=hw'.cell r1; have z2:=hw'.cell r2; have z3:=hw'.cell r3; have z4:=hw'.cell r4; have z5:=hw'.cell r5; go_simp) ?_;refine zai fun K h=>?_; go_simp; refine h _ ?_; clear h K;refine zbb _ rfl (fun w' hw' hk=>?_) (fun v54=>?_)
    ·have hsz:=hw'.size;clear hk;unfold zaQ;go_simp
     exact ⟨(Ext.refl _).alloc _,Row.of_owns (World.ownsRow_lit (base:=0) (size:=6) w' _ 1 (Nat.zero_le _) (by decide) rfl)⟩
    refine zai fun K h=>?_; go_simp; refine h _ ?_; clear h K;refine zaP ⟨_,_,rfl,rfl,rfl,fun w' hw' hk=>?_,fun v55 w5 e5 ho5=>?_⟩
    ·have h52:w'.ownsRow wz.heap.size 36 6 v52 (0+s.past.length) ([]++zbE s.past):=hk 52 (by decide);have h54:Row w' 6 v54 1 (zbE [⟨rc,rt,⟨rk,ra,ro,rn⟩⟩]):=hk 54 (by decide);obtain ⟨vv,ww,hrun,hoo,hgg⟩:=zcs (P:=Tryz.prog) w' wz.heap.size 29 29 36 i1 _ 6 48 zn1 HI1.o hy0 hy1 hy2 rfl (by decide) v52 _ _ h52 v54 1 _ h54 (zel _) (by omega) (by decide) hw'.size;exact ⟨vv,ww,zdR rfl rfl rfl hrun,hw'.grown hgg (fun j hj=>(h52.lt j hj).1),hoo⟩
    clear x0 x1 x2 x3 r0 r1 r2 r3 r4 r5;have hro:Rd (fun k=>wz.heap.size<=k) (fun w=>zas 6 zhn w v55 (s.past++[⟨rc,rt,⟨rk,ra,ro,rn⟩⟩])) w5:=zhR (by simpa [zfw] using ho5);obtain ⟨pa2,pc2,hps⟩:=zag hro.o;rw [show (s.past++[(⟨rc,rt,⟨rk,ra,ro,rn⟩⟩:Rq)]).length=s.past.length+1 by simp] at hps;subst hps;have HRO:=zhd hro;clear hro ho5;have ez5:=e5;replace e5:Ext w1 w5:=he2.trans e5;obtain ⟨-,-,-,b3,-⟩:=HB.o w5 e5;obtain ⟨y0,y1,y2,y3,f0,f1,f2,f3⟩:=zb4 b3;go_wp2_with fail
    clear y0 y1 y2 y3 f0 f1 f2 f3;have b5:=set4 b3 (.slice ca s.cells.length cc) (.slice none 0 0) (.slice va (zci s.answers ⟨rc,rt,⟨x,n⟩⟩).length vc) (.slice pa2 (s.past.length+1) pc2);obtain ⟨q0,q1,q2,q3,-⟩:=zb4 b5;obtain ⟨B,hB⟩:=zdF A w.heap.size 5;have n3:¬ B (w.heap.size+1+1+1):=hB.2.2.1 _ (by omega) (by omega);have m6:=zcj (e0.trans e5) (b:=w.heap.size+1+1+1) (by omega) (.slice ca s.cells.length cc) (.slice none 0 0) (.slice va (zci s.answers ⟨rc,rt,⟨x,n⟩⟩).length vc) (.slice pa2 (s.past.length+1) pc2);have hsz:=HSZ.o;have hle5:=he2.size;refine bodyPost_ret (by simp [results,Tryz.results63,go_sem,q0,q1,q2,q3]; rfl) rfl ?_;refine ⟨_,rfl,m6,Rd.widen (A:=B) (zca (zdJ (s:=zb3 s ⟨rc,rt,⟨rk,ra,ro,rn⟩⟩ ⟨x,n⟩) ?_ ?_ ?_ ?_)) (fun k _ h=>hB.2.2.2 k h)⟩
    ·exact (((((H1.o.widen hB.1).ext (e0.trans e5)).set n3 _ _).set n3 _ _).set n3 _ _).set n3 _ _
    ·exact Rd.all fun w=>zbu w
    ·exact ((((((zes HO2.o).ext ez5).widen (B:=B) (fun k _ h=>hB.2.1 k (by omega))).set n3 _ _).set n3 _ _).set n3 _ _).set n3 _ _
    ·exact ((((HRO.o.widen (B:=B) (fun k _ h=>hB.2.1 k (by omega))).set n3 _ _).set n3 _ _).set n3 _ _).set n3 _ _
   ·have ho:=HO.o;rw [HPT.o.done] at ho;obtain ⟨b0,b1,-,b3,-⟩:=HB.o wr he;obtain ⟨x0,x1,x2,x3,-⟩:=zb4 b0;obtain ⟨⟨r0,r1,r2,r3,r4,r5⟩,-⟩:=box6 b1;clear b0 b1;obtain ⟨va,vc,hvs⟩:=zag (zes ho).o;subst hvs;have HO2:=zhd ho;clear ho;obtain ⟨i1,hi1,hy0,hy1,hy2⟩:=info_parts Tryz.infoRequest;have HI1:=zhd hi1;clear hi1;have mz:Ext w wr:=e0.trans he;have HP4:=zhd (zei.1 (H4.o.o.ext zjT mz));go_wp2_with fail
    refine zcA 9 [none,none,none,some (.inr (zdr wr.heap.size 36 6 0 [])),none,none,some (.inr fun v wx=>wx.ownsRow wr.heap.size 36 6 v (0+s.past.length) ([]++zbE s.past)),none,some (.inr fun v wx=>Row wx 6 v 1 (zbE [⟨rc,rt,⟨rk,ra,ro,rn⟩⟩]))] (fun v wx=>wx.ownsRow wr.heap.size 36 6 v (0+s.past.length+1) ([]++zbE s.past++zbE [⟨rc,rt,⟨rk,ra,ro,rn⟩⟩])) (by kernel_rfl) (by kernel_rfl) (by kernel_rfl) ?_ (fun v=>zct _ _ _ _ _ v) ?_
    ·exact ⟨trivial,trivial,trivial,zgS _ _ _ _ _,trivial,trivial,zct _ _ _ _ _,trivial,fun _ _ _ he h=>Row.ext h he,trivial⟩
    (refine zap (fun K hK=>?_); go_simp; first | refine hK _ ?_ | refine ⟨(fun h=>by cases h),hK _ ?_⟩; clear hK K)
    refine zay (.slice ca s.cells.length cc) rfl (fun w' hw'=>by have z0:=hw'.cell x0; go_simp) ?_;refine zai fun K h=>?_; go_simp; refine h _ ?_; clear h K;(refine zap (fun K hK=>?_); go_simp; first | refine hK _ ?_ | refine ⟨(fun h=>by cases h),hK _ ?_⟩; clear hK K)
    refine zbb _ rfl (fun w' hw' hk=>?_) (fun v49=>?_)
    ·have hsz:=hw'.size;clear hk;unfold zaQ;go_simp
     exact ⟨(Ext.refl _).alloc _,zfM #[] 0 hsz (by decide) rfl⟩
    refine zai fun K h=>?_; go_simp; refine h _ ?_; clear h K;(refine zap (fun K hK=>?_); go_simp; first | refine hK _ ?_ | refine ⟨(fun h=>by cases h),hK _ ?_⟩; clear hK K)
    refine zay (.slice pa s.past.length pc) rfl (fun w' hw'=>by have z0:=hw'.cell x3; go_simp) ?_;refine zai fun K h=>?_; go_simp; refine h _ ?_; clear h K;refine zbb _ rfl (fun w' hw' hk=>?_) (fun v52=>?_)
    ·have h49:zdr wr.heap.size 36 6 0 [] v49 w':=hk 49 (by decide);obtain ⟨vv,ww,hrun,hoo,hee⟩:=zcf (P:=Tryz.prog) w' wr.heap.size 29 29 36 i1 _ 6 48 zn1 HI1.o hy0 hy1 hy2 rfl (by decide) v49 0 _ h49 (.slice pa s.past.length pc) s.past.length _ (HP4.o.ext hw') (zel _) (by omega) (by decide) hw'.size;exact zdc rfl rfl rfl hrun hee hoo
    refine zai fun K h=>?_; go_simp; refine h _ ?_; clear h K;refine zay (RQ ⟨rc,rt,⟨rk,ra,ro,rn⟩⟩) rfl (fun w' hw'=>by have z0:=hw'.cell r0; have z1:=hw'.cell r1; have z2:=hw'.cell r2; have z3:=hw'.cell r3; have z4:=hw'.cell r4; have z5:=hw'.cell r5; go_simp) ?_;refine zai fun K h=>?_; go_simp; refine h _ ?_; clear h K;refine zbb _ rfl (fun w' hw' hk=>?_) (fun v54=>?_)
    ·have hsz:=hw'.size;clear hk;unfold zaQ;go_simp
     exact ⟨(Ext.refl _).alloc _,Row.of_owns (World.ownsRow_lit (base:=0) (size:=6) w' _ 1 (Nat.zero_le _) (by decide) rfl)⟩
    refine zai fun K h=>?_; go_simp; refine h _ ?_; clear h K;refine zaP ⟨_,_,rfl,rfl,rfl,fun w' hw' hk=>?_,fun v55 w5 e5 ho5=>?_⟩
    ·have h52:w'.ownsRow wr.heap.size 36 6 v52 (0+s.past.length) ([]++zbE s.past):=hk 52 (by decide);have h54:Row w' 6 v54 1 (zbE [⟨rc,rt,⟨rk,ra,ro,rn⟩⟩]):=hk 54 (by decide);obtain ⟨vv,ww,hrun,hoo,hgg⟩:=zcs (P:=Tryz.prog) w' wr.heap.size 29 29 36 i1 _ 6 48 zn1 HI1.o hy0 hy1 hy2 rfl (by decide) v52 _ _ h52 v54 1 _ h54 (zel _) (by omega) (by decide) hw'.size;exact ⟨vv,ww,zdR rfl rfl rfl hrun,hw'.grown hgg (fun j hj=>(h52.lt j hj).1),hoo⟩
    clear x0 x1 x2 x3 r0 r1 r2 r3 r4 r5;have hro:Rd (fun k=>wr.heap.size<=k) (fun w=>zas 6 zhn w v55 (s.past++[⟨rc,rt,⟨rk,ra,ro,rn⟩⟩])) w5:=zhR (by simpa [zfw] using ho5);obtain ⟨pa2,pc2,hps⟩:=zag hro.o;rw [show (s.past++[(⟨rc,rt,⟨rk,ra,ro,rn⟩⟩:Rq)]).length=s.past.length+1 by simp] at hps;subst hps;have HRO:=zhd hro;clear hro ho5;have ez5:=e5;replace e5:Ext w1 w5:=he.trans e5;obtain ⟨-,-,-,b3,-⟩:=HB.o w5 e5;obtain ⟨y0,y1,y2,y3,f0,f1,f2,f3⟩:=zb4 b3;go_wp2_with fail
    clear y0 y1 y2 y3 f0 f1 f2 f3;have b5:=set4 b3 (.slice ca s.cells.length cc) (.slice none 0 0) (.slice va (zci s.answers ⟨rc,rt,⟨x,n⟩⟩).length vc) (.slice pa2 (s.past.length+1) pc2);obtain ⟨q0,q1,q2,q3,-⟩:=zb4 b5;obtain ⟨B,hB⟩:=zdF A w.heap.size 5;have n3:¬ B (w.heap.size+1+1+1):=hB.2.2.1 _ (by omega) (by omega);have m6:=zcj (e0.trans e5) (b:=w.heap.size+1+1+1) (by omega) (.slice ca s.cells.length cc) (.slice none 0 0) (.slice va (zci s.answers ⟨rc,rt,⟨x,n⟩⟩).length vc) (.slice pa2 (s.past.length+1) pc2);have hsz:=HSZ.o;have hle5:=he.size;refine bodyPost_ret (by simp [results,Tryz.results63,go_sem,q0,q1,q2,q3]; rfl) rfl ?_;refine ⟨_,rfl,m6,Rd.widen (A:=B) (zca (zdJ (s:=zb3 s ⟨rc,rt,⟨rk,ra,ro,rn⟩⟩ ⟨x,n⟩) ?_ ?_ ?_ ?_)) (fun k _ h=>hB.2.2.2 k h)⟩
    ·exact (((((H1.o.widen hB.1).ext (e0.trans e5)).set n3 _ _).set n3 _ _).set n3 _ _).set n3 _ _
    ·exact Rd.all fun w=>zbu w
    ·exact ((((((zes HO2.o).ext ez5).widen (B:=B) (fun k _ h=>hB.2.1 k (by omega))).set n3 _ _).set n3 _ _).set n3 _ _).set n3 _ _
    ·exact ((((HRO.o.widen (B:=B) (fun k _ h=>hB.2.1 k (by omega))).set n3 _ _).set n3 _ _).set n3 _ _).set n3 _ _

open Go.RowKit Go.Mk

theorem zeI (i:Int) (w:World) (h0:0<=i) (h1:i<=4000000000000000000) :
  Calls Tryz.prog 137 #[I i] w fun e w'=>e=.returned (I (1+2 * i))/\w'=w:=by
 go_enter Tryz.func137,Tryz.ntmps137
 go_wp2
 go_ret
 exact ⟨rfl,rfl⟩

theorem zgW (i:Int) (w:World) (h0:0<=i) (h1:i<=4000000000000000000) :
  Calls Tryz.prog 138 #[I i] w fun e w'=>e=.returned (I (1+2 * i+1))/\w'=w:=by
 go_enter Tryz.func138,Tryz.ntmps138
 go_wp2_with fail
 refine Calls.same (zeI _ _ (by omega) (by omega)) ?_;go_wp2
 go_ret
 exact ⟨rfl,rfl⟩

theorem zja (v:Value) (xs:List Int) (i:Int) (w:World) (hv:zby w v xs) :
  Calls Tryz.prog 122 #[v,I i] w fun e w'=>e=.returned (.bool (decide (0<=i/\i < (xs.length:Int))))/\w'=w:=by
 obtain ⟨ao,cap,rfl,h1,h2,h3⟩:=hv.form;unfold maxLen at h2;clear h3 hv;by_cases hi:0<=i
 ·go_enter Tryz.func122,Tryz.ntmps122
  go_wp2
  go_ret
  exact ⟨by simp [hi],rfl⟩
 ·go_enter Tryz.func122,Tryz.ntmps122
  go_wp2
  go_ret
  exact ⟨by simp; omega,rfl⟩

theorem ziJ (v:Value) (xs:List Int) (w:World) (hv:zby w v xs) :
  Calls Tryz.prog 136 #[v] w fun e w'=>e=.returned (I (zcz xs))/\w'=w:=by
 obtain ⟨ao,cap,rfl,h1,h2,h3⟩:=hv.form;unfold maxLen at h2;clear hv;by_cases hz:xs.length=0
 ·go_enter Tryz.func136,Tryz.ntmps136
  go_wp2
  go_ret
  exact ⟨by simp [zcz,hz],rfl⟩
 ·obtain ⟨b,off,rfl,hc⟩:=h3 0 (by omega);clear h3;simp only [Nat.add_zero] at hc;go_enter Tryz.func136,Tryz.ntmps136
  go_wp2
  all_goals
   go_ret
   refine ⟨zer ?_,rfl⟩
   unfold zcz
   rw [if_neg hz,List.getD_eq_getElem?_getD] <;> omega

theorem zkO (v:Value) (xs:List Int) (n name:Int) (w:World) (hv:zby w v xs) (hn:n<=1000000000000000000) (hb:n<=0∨2 * n < (xs.length:Int)) :
  Calls Tryz.prog 142 #[v,I n,I name] w fun e w'=>e=.returned (I (findIn xs name n.toNat 0))/\w'=w:=by
 obtain ⟨ao,cap,rfl,h1,h2,h3⟩:=hv.form;unfold maxLen at h2;clear hv;go_enter Tryz.func142,Tryz.ntmps142
 go_wp2
 go_loop [9] (fun i=>∃ k:Nat,(k:Int)<=max n 0/\i=I k/\findIn xs name n.toNat 0=findIn xs name (n.toNat - k) k) (fun i=>n.toNat - (intOf i).toNat)
 case atStart=>exact ⟨0,by omega,rfl,rfl⟩
 case round =>
  obtain ⟨k,hk,rfl,hf⟩:=hrel;have HF:Hid (findIn xs name n.toNat 0=findIn xs name (n.toNat - k) k):=hf;clear hf;by_cases hlt:(k:Int) < n
  ·obtain ⟨b,off,rfl,hc⟩:=h3 (1+2 * k) (by omega);clear h3;go_wp2_with (go_at_call 137; refine Calls.same (zeI _ _ (by omega) (by omega)) ?_)
   ·go_ret
    exact ⟨zer (by rw [HF.o,zjM hlt (by rw [List.getD_eq_getElem?_getD]; assumption)]),rfl⟩
   ·go_round
    case rel=>exact ⟨k+1,by omega,by go_num,by rw [HF.o,ziL hlt (by rw [List.getD_eq_getElem?_getD]; assumption)]⟩
    case measure=>simp [intOf]; omega
  ·go_wp2
   go_ret
   exact ⟨zer (by rw [HF.o,zko (by omega)]),rfl⟩

theorem zpZ (v:Value) (xs:List Int) (name:Int) (w:World) (hv:zby w v xs) (hl:xs.length<=1000000000000000000) :
  Calls Tryz.prog 129 #[v,I name] w fun e w'=>e=.returned (I (findIn xs name (zcz xs).toNat 0))/\w'=w:=by
 go_enter Tryz.func129,Tryz.ntmps129
 go_wp2_with fail
 refine Calls.same (ziJ v xs _ hv) ?_;have he:zcz xs<=1000000000000000000:=by unfold zcz; split <;> omega
 have hb:zcz xs<=0∨2 * zcz xs < (xs.length:Int):=by unfold zcz; split <;> omega
 go_wp2_with fail
 refine Calls.same (zkO v xs (zcz xs) name _ hv he hb) ?_;go_wp2
 go_ret
 exact ⟨rfl,rfl⟩

open Go.RowKit Go.Mk

theorem zoR (v:Value) (xs:List Int) (w:World) (hv:zby w v xs) (hr:xs.length * 8<=140737488355328) :
  Calls Tryz.prog 121 #[v] w fun e w'=>e=.returned (.slice (some ⟨w.heap.size,0,none⟩) xs.length xs.length)/\w'.ownsRow w.heap.size 3 1 (.slice (some ⟨w.heap.size,0,none⟩) xs.length xs.length) xs.length (xs.map I)/\Ext w w':=by
 obtain ⟨i0,hi,hz0,hz1,hz2⟩:=info_parts Tryz.infoInt;obtain ⟨hlen,ao,cap,rfl,h1,h2,h0,h3⟩:=hv;unfold maxLen at h2;go_enter Tryz.func121,Tryz.ntmps121
 go_wp2_with (at_make; refine wpList_make_full _ rfl _ _ 26 rfl w.heap.size 3 i0 (.int .i64 0) 1 zpg hi hz0 hz1 .i64 .i64 _ _ xs.length rfl rfl rfl rfl (by rw [hz2]; omega) (by unfold maxLen; omega) (Nat.le_refl _) ?_; intro w1 hown hgrow)
 have he1:Ext w w1:=(Ext.refl w).grown hgrow (fun k hk=>by cases hk);obtain ⟨w2,hrun,hown2,hgrow2⟩:=zlH (P:=Tryz.prog) w1 26 3 3 zpg Tryz.infoInt1 w.heap.size w.heap.size xs.length _ (xs.map I) _ hown (Row.ext ⟨hlen,ao,cap,rfl,h1,h2,h0,h3⟩ he1) (zjv xs);have he2:Ext w w2:=he1.grown hgrow2 (fun k hk=>by cases hk; exact Nat.le_refl _);rw [hrun];clear hrun hown hgrow hgrow2 he1 h3;go_wp2
 go_ret
 exact ⟨rfl,hown2,he2⟩

theorem zoy (v u:Value) (xs:List Int) (l:List (Int×Int)) (w:World) (hv:zby w v xs) (hu:zax w u l) (hr:xs.length * 8<=140737488355328) (hr2:l.length * 16<=140737488355328) :
  zaT Tryz.prog 111 #[v,u] w fun r w'=>∃ n,w'.ownsRow w.heap.size 3 1 r n ((zaD xs l).map I):=by
 unfold zaT;obtain ⟨ao,cap,rfl,h1,h2,h3⟩:=hu.form;unfold maxLen at h2;go_enter Tryz.func111,Tryz.ntmps111
 go_wp2_with fail
 refine (zoR v xs _ hv hr).mono ?_;rintro e w1 ⟨rfl,hown,he⟩
 generalize hg:w.heap.size=g at hown ⊢;have HG:Hid (w.heap.size=g):=hg;clear hg;go_wp2_with fail
 go_loopw [12] (fun i wr=>∃ k:Nat,k<=l.length/\i=I k/\wr.ownsRow g 3 1 (.slice (some ⟨g,0,none⟩) xs.length xs.length) xs.length ((zaD xs (l.take k)).map I)/\Ext w wr) (fun i _=>l.length - (intOf i).toNat)
 case atStart=>exact ⟨0,by omega,rfl,hown,he⟩
 case round =>
  obtain ⟨k,hk,rfl,hown',he'⟩:=hrel;clear hown he;by_cases hlt:k < l.length
  ·obtain ⟨b,off,rfl,hc1,hc2⟩:=h3 k hlt;clear h3;have hd1:=he'.cell hc1;have hd2:=he'.cell hc2;clear hc1 hc2;generalize hp:l.getD k (0,0)=p at hd1 hd2;have HP:Hid (l[k]?=some p):=by unfold Hid; rw [<- hp]; simp [hlt]
   clear hp;obtain ⟨at_,n⟩:=p;simp only [] at hd1 hd2;have hyl:(zaD xs (l.take k)).length=xs.length:=zb5 _ _;have HN:Hid (zaD xs (l.take (k+1))=zdD (zaD xs (l.take k)) (at_,n)):=by unfold Hid; rw [List.take_add_one,HP.o]; exact zgB _ _ _
   generalize zaD xs (l.take k)=ys at hown' HN hyl;have HYL:Hid (ys.length=xs.length):=hyl;clear hyl;have hown2:=fun o=>hown'.alloc o;have fz:∀ o,(wr.alloc o).frozen? ⟨g,at_.toNat,none⟩=false:=fun o=>(hown2 o).frozenAt _;by_cases hin:0<=at_/\at_ < (xs.length:Int)
   ·obtain ⟨i1,i2⟩:=hin
    have hc:∀ o,(wr.alloc o).cell? ⟨g,at_.toNat,none⟩=some (I (ys.getD at_.toNat 0)):=fun o=>by
     rw [(hown2 o).cellAt _ (by omega)];have:at_.toNat < ys.length:=by rw [HYL.o]; omega
     simp [this]
    have i3:at_ < (ys.length:Int):=by rw [HYL.o]; exact i2
    go_wp2_with (go_at_call 122; refine Calls.same (zja _ ys at_ _ (zdB (hown2 _))) ?_)
    go_roundw
    case rel =>
     refine ⟨k+1,by omega,by go_num,?_,(he'.alloc _).setCell (by rw [HG.o]; exact Nat.le_refl _) _⟩;rw [HN.o];unfold zdD;rw [if_pos ⟨i1,i3⟩,List.map_set];exact ((hown2 _).stored _ _).1
    case measure=>simp [intOf]; omega
   ·have hdc:decide (0<=at_/\at_ < (ys.length:Int))=false:=by rw [HYL.o]; simp; omega
    go_wp2_with (go_at_call 122; refine Calls.same (zja _ ys at_ _ (zdB (hown2 _))) ?_)
    go_roundw
    case rel =>
     refine ⟨k+1,by omega,by go_num,?_,he'.alloc _⟩;rw [HN.o];unfold zdD;rw [if_neg (by rw [HYL.o]; exact hin)];exact hown2 _
    case measure=>simp [intOf]; omega
  ·go_wp2_with fail
   go_ret
   refine ⟨_,rfl,he',xs.length,?_⟩;rw [List.take_of_length_le (by omega)] at hown';rw [HG.o];exact hown'

open Go.RowKit Go.Mk

theorem zm3 (v:Value) (us:List (Int×Int)) (n base:Nat) (w:World) (ho:w.ownsRow base 111 2 v n (zaB us)) (hr:us.length * 16<=140737488355328) :
  Calls Tryz.prog 123 #[v] w fun e w'=>e=.returned (.tuple #[])/\w'.ownsRow base 111 2 v n (zaB us.reverse)/\w.grownBy w' v.ownBlock:=by
 have hn:us.length=n:=by have:=ho.1; rw [zcF] at this; omega
 rcases ho.2 with ⟨rfl,hz⟩ | ⟨g,cap,cur,rfl,hb,hg,hnc,hcm,_⟩
 ·have:us=[]:=List.eq_nil_of_length_eq_zero (by omega);subst this;go_enter Tryz.func123,Tryz.ntmps123
  go_wp2
  refine wp_loop_rounds 1 ?_;rw [rounds_succ];go_wp2
  go_end0
  exact ⟨rfl,ho,World.grownBy.refl _ _⟩
 ·clear hg;unfold maxLen at hcm;go_enter Tryz.func123,Tryz.ntmps123
  go_wp2
  go_loopw [2,3] (fun i j wr=>∃ k:Nat,2 * k<=n/\i=I k/\j=I ((n:Int) - 1 - k)/\wr.ownsRow base 111 2 (.slice (some ⟨g,0,none⟩) n cap) n (zaB (rv us k))/\w.grownBy wr (some g)) (fun i _ _=>n - (intOf i).toNat)
  case atStart=>exact ⟨0,by omega,rfl,by simp,by rw [zrU]; exact ho,World.grownBy.refl _ _⟩
  case round =>
   obtain ⟨k,hk,rfl,rfl,hown,hgr⟩:=hrel;by_cases hlt:2 * k+1 < n
   ·have hlen:=ziq us k;obtain ⟨r1,r2⟩:=ztg us k (by omega);obtain ⟨c1,c2⟩:=zfN (rv us k) k (by omega);obtain ⟨c3,c4⟩:=zfN (rv us k) (us.length - 1 - k) (by omega);rw [r1] at c1 c2;rw [r2] at c3 c4;rw [<- hown.cellAt _ (by omega)] at c1 c2 c3 c4;have HS:Hid (rv us (k+1)=((rv us k).set k (us.getD (us.length - 1 - k) (0,0))).set (us.length - 1 - k) (us.getD k (0,0))):=zr5 us k (by omega);generalize us.getD k (0,0)=p at *;generalize us.getD (us.length - 1 - k) (0,0)=q at *;obtain ⟨p1,p2⟩:=p;obtain ⟨q1,q2⟩:=q;simp only [] at c1 c2 c3 c4;have hj:us.length - 1 - k=n - 1 - k:=by rw [hn]
    rw [hj] at c3 c4 HS;generalize hJ:n - 1 - k=J at *;have hJ':(n:Int) - 1 - k=(J:Int):=by omega
    rw [hJ'];go_wp2_with fail
    have f1:wr.frozen? ⟨g,k * 2,none⟩=false:=hown.frozenAt _;have f2:wr.frozen? ⟨g,k * 2+1,none⟩=false:=hown.frozenAt _;have f3:wr.frozen? ⟨g,J * 2,none⟩=false:=hown.frozenAt _;have f4:wr.frozen? ⟨g,J * 2+1,none⟩=false:=hown.frozenAt _;have hJn:J < n:=by omega
    have hkn:k < n:=by omega
    have hkJ:k < J:=by omega
    go_region
    have s1:=hown.stored (k * 2) (I q1);have s2:=s1.1.stored (k * 2+1) (I q2);have s3:=s2.1.stored (J * 2) (I p1);have s4:=s3.1.stored (J * 2+1) (I p2);have hgr':w.grownBy _ (some g):=za3 (za3 (za3 (za3 hgr s1.2) s2.2) s3.2) s4.2;have hown':=s4.1;clear s1 s2 s3 s4 c1 c2 c3 c4 f1 f2 f3 f4;go_wp2
    go_roundw
    case rel =>
     refine ⟨k+1,by omega,by go_num,by go_num,?_,zkl hgr'⟩;rw [HS.o,zgb,zgb];exact hown'
    case measure=>simp [intOf]; omega
   ·go_wp2
    go_end0
    rw [zsp us k (by omega)] at hown;exact ⟨rfl,hown,hgr⟩

theorem zrc (v u:Value) (xs:List Int) (l:List (Int×Int)) (w:World) (hv:zby w v xs) (hu:zax w u l) (hr:xs.length * 8<=140737488355328) (hr2:l.length * 16<=140737488355328) :
  zaT Tryz.prog 110 #[v,u] w fun r w'=>∃ n,w'.ownsRow w.heap.size 111 2 r n (zaB (zbV xs l)):=by
 unfold zaT;obtain ⟨i0,hi,hz0,hz1,hz2⟩:=info_parts Tryz.infoWrite;obtain ⟨ao,cap,rfl,h1,h2,h3⟩:=hu.form;unfold maxLen at h2;go_enter Tryz.func110,Tryz.ntmps110
 go_wp2_with fail
 refine (zoR v xs _ hv hr).mono ?_;rintro e w1 ⟨rfl,hown,he⟩
 generalize hg:w.heap.size=g at hown ⊢;have HG:Hid (w.heap.size=g):=hg;clear hg;have hsz1:g+1<=w1.heap.size:=(hown.lt g rfl).2;go_wp2_with fail
 go_loopw [6,13] (fun o i wr=>∃ k:Nat,k<=l.length/\i=I k/\wr.ownsRow g 3 1 (.slice (some ⟨g,0,none⟩) xs.length xs.length) xs.length ((zaD xs (l.take k)).map I) /\
   wr.ownsRow (g+1) 111 2 o (zbV xs (l.take k)).reverse.length (zaB (zbV xs (l.take k)).reverse)/\g+1<=wr.heap.size/\Ext w wr) (fun _ i _=>l.length - (intOf i).toNat)
 case atStart=>exact ⟨0,by omega,rfl,hown,World.ownsRow_nil _ _ _ _,hsz1,he⟩
 case round =>
  obtain ⟨k,hk,rfl,hown',hout,hsz,he'⟩:=hrel;clear hown he;have hul:(zbV xs (l.take k)).reverse.length<=k:=by have:=zgM xs (l.take k); simp at this ⊢; omega
  have h6:=hout.lt;by_cases hlt:k < l.length
  ·obtain ⟨b,off,rfl,hc1,hc2⟩:=h3 k hlt;clear h3;have hd1:=he'.cell hc1;have hd2:=he'.cell hc2;clear hc1 hc2;generalize hp:l.getD k (0,0)=p at hd1 hd2;have HP:Hid (l[k]?=some p):=by unfold Hid; rw [<- hp]; simp [hlt]
   clear hp;obtain ⟨at_,n⟩:=p;simp only [] at hd1 hd2;have hyl:(zaD xs (l.take k)).length=xs.length:=zb5 _ _;have HN:Hid (zaD xs (l.take (k+1))=zdD (zaD xs (l.take k)) (at_,n)):=by unfold Hid; rw [List.take_add_one,HP.o]; exact zgB _ _ _
   have HU:Hid ((zbV xs (l.take (k+1))).reverse=(zbV xs (l.take k)).reverse++(if 0<=at_/\at_ < (xs.length:Int) then [(at_,(zaD xs (l.take k)).getD at_.toNat 0)] else [])):=by
    unfold Hid;rw [List.take_add_one,HP.o];show (zbV xs (l.take k++[(at_,n)])).reverse=_
    rw [zlN,List.reverse_append];split <;> simp
   generalize zaD xs (l.take k)=ys at hown' HN HU hyl;generalize (zbV xs (l.take k)).reverse=us at hout HU hul;have HYL:Hid (ys.length=xs.length):=hyl;clear hyl;have hown2:=fun o=>hown'.alloc o;have fz:∀ o,(wr.alloc o).frozen? ⟨g,at_.toNat,none⟩=false:=fun o=>(hown2 o).frozenAt _;by_cases hin:0<=at_/\at_ < (xs.length:Int)
   ·obtain ⟨i1,i2⟩:=hin
    have hc:∀ o,(wr.alloc o).cell? ⟨g,at_.toNat,none⟩=some (I (ys.getD at_.toNat 0)):=fun o=>by
     rw [(hown2 o).cellAt _ (by omega)];have:at_.toNat < ys.length:=by rw [HYL.o]; omega
     simp [this]
    have i3:at_ < (ys.length:Int):=by rw [HYL.o]; exact i2
    go_wp2_with (go_at_call 122; refine Calls.same (zja _ ys at_ _ (zdB (hown2 _))) ?_)
    have hout2:=hout.alloc (Obj.cells #[Value.int IntKind.i64 at_,Value.int IntKind.i64 n] 111);have hown3:=hown2 (Obj.cells #[Value.int IntKind.i64 at_,Value.int IntKind.i64 n] 111);have he3:=he'.alloc (Obj.cells #[Value.int IntKind.i64 at_,Value.int IntKind.i64 n] 111);have hsz3:g+1<=(wr.alloc (Obj.cells #[Value.int IntKind.i64 at_,Value.int IntKind.i64 n] 111)).heap.size:=by simp; omega
    have e1:(wr.alloc (Obj.cells #[Value.int IntKind.i64 at_,Value.int IntKind.i64 n] 111)).cell? ⟨wr.heap.size,0,none⟩=some (I at_):=by simp
    have e1':(wr.alloc (Obj.cells #[Value.int IntKind.i64 at_,Value.int IntKind.i64 n] 111)).cell? ⟨wr.heap.size,1,none⟩=some (I n):=by simp
    have e2:=hc (Obj.cells #[Value.int IntKind.i64 at_,Value.int IntKind.i64 n] 111);have hwr:wr.heap.size < (wr.alloc (Obj.cells #[Value.int IntKind.i64 at_,Value.int IntKind.i64 n] 111)).heap.size:=by simp
    generalize wr.alloc (Obj.cells #[Value.int IntKind.i64 at_,Value.int IntKind.i64 n] 111)=W at *;clear hd1 hd2 hown2 fz hc hown' hout hsz he';generalize hY:ys.getD at_.toNat 0=y at *;refine zan 10 [none,none,none,none,none,none,none,none,none,some (.inr fun v w=>zax w v [(at_,y)])] (by kernel_rfl) (by kernel_rfl) ?_ ?_
    ·exact ⟨trivial,trivial,trivial,trivial,trivial,trivial,trivial,trivial,trivial,ze3 _,trivial⟩
    iterate 2 (refine zap (fun K hK=>?_); go_simp; refine hK _ ?_; clear hK K)
    refine zay (I at_) rfl (fun w' hw'=>by have:=hw'.cell e1; go_simp) ?_;iterate 2 (refine zap (fun K hK=>?_); go_simp; refine hK _ ?_; clear hK K)
    refine zay (I at_) rfl (fun w' hw'=>by have:=hw'.cell e1; go_simp) ?_;(refine zap (fun K hK=>?_); go_simp; refine hK _ ?_; clear hK K)
    refine zay (I y) rfl (fun w' hw'=>by have:=hw'.cell e2; go_simp) ?_;(refine zap (fun K hK=>?_); go_simp; refine hK _ ?_; clear hK K)
    refine zbb _ rfl (fun w' hw' _=>?_) (fun v30=>?_)
    ·unfold zaQ;go_simp
     exact ⟨(Ext.refl _).alloc _,zcY _ _ _ 1 rfl rfl (by decide)⟩
    refine zaP ?_;intro w2 he2 hF;have h30:zax w2 v30 [(at_,y)]:=hF 30;clear hF;have e3:=he2.cell e1;have e3':=he2.cell e1';refine zaA _ rfl (.tmp 21) (.tmp 30) 27 rfl (g+1) 111 i0 _ 2 16 zfG hi hz0 hz1 hz2 rfl (by decide) u6 us.length (zaB us) rfl ?_ v30 rfl 1 _ h30 (zbK _) (by omega) (by decide) ?_ ?_
    ·exact zam hout2 he2
    ·exact Nat.le_trans hsz3 he2.size
    intro o' w3 ho hg3;have hneg:u6.ownBlock≠some g:=fun e=>by have:=(h6 g e).1; omega
    have hnep:u6.ownBlock≠some wr.heap.size:=fun e=>by have:=(h6 _ e).2; omega
    have e4:=zhM hg3 e3 hnep;have e4':=zhM hg3 e3' hnep;have hown4:=(zam hown3 he2).kept hg3 (.inr (fun e=>hneg e.symm));have he4:Ext w w3:=(he3.trans he2).grown hg3 (fun k hk=>by have:=(h6 k hk).1; have:=HG.o; omega);have hsz4:g+1<=w3.heap.size:=Nat.le_trans hsz3 (Nat.le_trans he2.size hg3.size);have e5:w3.cell? ⟨g,at_.toNat,none⟩=some (I y):=zhM hg3 (he2.cell e2) hneg;have f5:w3.frozen? ⟨g,at_.toNat,none⟩=false:=hown4.frozenAt _;clear e1 e1' e2 e3 e3' hown3 hout2 he3 hsz3 hg3 he2 h30 hwr;go_wp2
    go_roundw
    case rel =>
     have hst:=hown4.stored at_.toNat (I n);have ho2:=ho.kept hst.2 (.inr (fun e=>by have:=(ho.lt g e).1; omega));refine ⟨k+1,by omega,by go_num,?_,?_,by simpa using hsz4,he4.setCell (by rw [HG.o]; exact Nat.le_refl _) _⟩
     ·rw [HN.o];unfold zdD;rw [if_pos ⟨i1,i3⟩,List.map_set];exact hst.1
     ·rw [HU.o,if_pos ⟨i1,i2⟩,zbl,List.length_append];exact ho2
    case measure=>simp [intOf]; omega
   ·have hdc:decide (0<=at_/\at_ < (ys.length:Int))=false:=by rw [HYL.o]; simp; omega
    go_wp2_with (go_at_call 122; refine Calls.same (zja _ ys at_ _ (zdB (hown2 _))) ?_)
    go_roundw
    case rel =>
     refine ⟨k+1,by omega,by go_num,?_,?_,by simp; omega,he'.alloc _⟩
     ·rw [HN.o];unfold zdD;rw [if_neg (by rw [HYL.o]; exact hin)];exact hown2 _
     ·rw [HU.o,if_neg hin,List.append_nil];exact hout.alloc _
    case measure=>simp [intOf]; omega
  ·rw [List.take_of_length_le (by omega)] at hout;clear hown' h3;go_wp2_with fail
   refine (zm3 _ _ _ _ _ hout (by have:=zgM xs l; simp; omega)).mono ?_;rintro e w3 ⟨rfl,ho,hg⟩
   rw [List.reverse_reverse] at ho;have he3:Ext w w3:=he'.grown hg (fun k hk=>by have:=(h6 k hk).1; have:=HG.o; omega);clear hg;go_wp2
   go_ret
   exact ⟨_,rfl,he3,_,zbj ho (by have:=HG.o; omega)⟩

open Go.RowKit Go.Mk

theorem zrO (w:World):zaT Tryz.prog 54 #[] w fun r w'=>∃ n,w'.ownsRow w.heap.size 3 1 r n ((List.replicate 11 (0:Int)).map I):=by
 unfold zaT;have hmk:∀ w,(Instr.makeSlice 26 (.int .i64 11) (.int .i64 11)).run Tryz.prog w=.ok (.slice (some ⟨w.heap.size,0,none⟩) 11 11) (w.alloc (.cells (List.replicate 11 (I 0)).toArray 3)):=fun _=>by kernel_rfl
 go_enter Tryz.func54,Tryz.ntmps54
 go_wp2
 go_ret
 exact ⟨_,rfl,(Ext.refl _).alloc _,11,World.ownsRow_lit (base:=w.heap.size) (e:=3) (size:=1) w _ 11 (Nat.le_refl _) (by decide) rfl⟩

end Go.Proofs.YtdmipnnfoolelafGreat

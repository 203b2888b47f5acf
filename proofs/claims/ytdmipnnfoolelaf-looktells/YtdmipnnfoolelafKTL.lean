/- Texts of the proof, merged: S4 W1 W2 W3 W4. -/
import Derived.Test.YtdmipnnfoolelafKTA
import Derived.Test.YtdmipnnfoolelafKTK
import Derived.Test.YtdmipnnfoolelafKTE
import Derived.Test.YtdmipnnfoolelafKTI
import Derived.BigRegion
set_option maxHeartbeats 4000000
set_option maxRecDepth 100000

namespace Go.Proofs.Ytdmipnnfoolelaf
open Go.RowKit Go.Mk

/-! Answers, as they are put. -/

theorem zmi {l:List An} {a:An} (h:∀ x ∈ l,x.client≠a.client):zb2 l a=l++[a]:=by
 induction l with
 | nil=>rfl
 | cons x l ih =>
  unfold zb2
  rw [if_neg (h x (by simp)),ih (fun y hy=>h y (by simp [hy]))]
  rfl
theorem zm8 {l:List An} {x a:An} (h:∀ x ∈ l,x.client≠a.client) (hx:x.client=a.client):zb2 (l++[x]) a=l++[a]:=by
 induction l with
 | nil=>exact if_pos hx
 | cons y l ih =>
  have hy:¬ y.client=a.client:=h y (by simp)
  show (if y.client=a.client then a::(l++[x]) else y::zb2 (l++[x]) a)=_
  rw [if_neg hy,ih (fun y hy=>h y (by simp [hy]))]
  rfl
theorem zll {l:List An} {x a:An} (h:∃ y ∈ l,y.client=a.client):zb2 (l++[x]) a=zb2 l a++[x]:=by
 induction l with
 | nil=>obtain ⟨y,hy,_⟩:=h; cases hy
 | cons y l ih =>
  show (if y.client=a.client then a::(l++[x]) else y::zb2 (l++[x]) a)=(if y.client=a.client then a::l else y::zb2 l a)++[x]
  by_cases hy:y.client=a.client
  ·rw [if_pos hy,if_pos hy]; rfl
  ·rw [if_neg hy,if_neg hy,ih]
   ·rfl
   ·obtain ⟨z,hz,e⟩:=h
    rcases List.mem_cons.1 hz with rfl | hz
    ·exact absurd e hy
    ·exact ⟨z,hz,e⟩
theorem zm9 {l:List An} {a:An} (h:∃ y ∈ l,y.client=a.client):(zb2 l a).length=l.length:=by
 induction l with
 | nil=>obtain ⟨y,hy,_⟩:=h; cases hy
 | cons y l ih =>
  show (if y.client=a.client then a::l else y::zb2 l a).length=_
  by_cases hy:y.client=a.client
  ·rw [if_pos hy]; rfl
  ·rw [if_neg hy,List.length_cons,ih]
   ·rfl
   ·obtain ⟨z,hz,e⟩:=h
    rcases List.mem_cons.1 hz with rfl | hz
    ·exact absurd e hy
    ·exact ⟨z,hz,e⟩

def zbT (l:List An):List Value:=l.flatMap fun x=>[I x.client,I x.token,I x.reply.err,I x.reply.n]
theorem zhY (l:List An):(zbT l).length=l.length * 4:=by
 unfold zbT
 induction l with
 | nil=>rfl
 | cons p l ih=>simp [List.flatMap_cons,ih]; omega
theorem zcI (l m:List An):zbT (l++m)=zbT l++zbT m:=by simp [zbT]
theorem zdl (l:List An):∀ u ∈ zbT l,u.oneCell'=true:=by
 intro u hu
 unfold zbT at hu
 rw [List.mem_flatMap] at hu
 obtain ⟨p,_,hp⟩:=hu
 simp at hp
 rcases hp with rfl | rfl | rfl | rfl <;> rfl
theorem zfp {base e n:Nat} {v:Value} {l:List An} {w:World} (h:w.ownsRow base e 4 v n (zbT l)):Rd (fun k=>base<=k) (fun w=>zaq 4 ziR w v l) w:=by
 have hl:l.length=n:=by have:=h.1; rw [zhY] at this; omega
 subst hl
 exact (zdY h).imp fun w h=>(zbz (f:=fun (x:An)=>[I x.client,I x.token,I x.reply.err,I x.reply.n]) (fun _=>rfl)).2 h

theorem Try.infoAnswer:(Try.prog.info? 96).map (fun i=>(i.zero,i.size,i.bytes))=some (some (.agg #[.int .i64 0,.int .i64 0,.int .i64 0,.int .i64 0]),4,32):=by kernel_rfl
theorem Try.infoRequest:(Try.prog.info? 35).map (fun i=>(i.zero,i.size,i.bytes))=some (some (.agg #[.int .i64 0,.int .i64 0,.int .i64 0,.int .i64 0,.int .i64 0,.int .i64 0]),6,48):=by kernel_rfl

def zfF (l:List An) (a:An) (k:Nat) (d:Bool) (m:List An):Prop :=
 (d=false/\(∀ x ∈ l.take k,x.client≠a.client)/\m=l.take k)∨(d=true/\(∃ x ∈ l.take k,x.client=a.client)/\m=zb2 (l.take k) a)
theorem zfF.len {l:List An} {a:An} {k:Nat} {d:Bool} {m:List An} (h:zfF l a k d m) (hk:k<=l.length):m.length=k:=by
 rcases h with ⟨_,_,rfl⟩ | ⟨_,h,rfl⟩
 ·rw [List.length_take]; omega
 ·rw [zm9 h,List.length_take]; omega
theorem zfF.hit {l:List An} {a x:An} {k:Nat} {m:List An} (h:zfF l a k false m) (hx:l[k]?=some x) (hc:x.client=a.client):zfF l a (k+1) true (m++[a]):=by
 rcases h with ⟨_,h,rfl⟩ | ⟨h,_⟩
 ·right
  rw [List.take_add_one,hx]
  exact ⟨rfl,⟨x,by simp,hc⟩,(zm8 h hc).symm⟩
 ·cases h
theorem zfF.miss {l:List An} {a x:An} {k:Nat} {m:List An} (h:zfF l a k false m) (hx:l[k]?=some x) (hc:¬ x.client=a.client):zfF l a (k+1) false (m++[x]):=by
 rcases h with ⟨_,h,rfl⟩ | ⟨h,_⟩
 ·left
  rw [List.take_add_one,hx]
  refine ⟨rfl,fun y hy=>?_,rfl⟩
  simp at hy
  rcases hy with hy | rfl
  ·exact h y hy
  ·exact hc
 ·cases h
theorem zfF.after {l:List An} {a x:An} {k:Nat} {m:List An} (h:zfF l a k true m) (hx:l[k]?=some x):zfF l a (k+1) true (m++[x]):=by
 rcases h with ⟨h,_⟩ | ⟨_,h,rfl⟩
 ·cases h
 ·right
  rw [List.take_add_one,hx]
  obtain ⟨y,hy,e⟩:=h
  exact ⟨rfl,⟨y,by simp [hy],e⟩,(zll ⟨y,hy,e⟩).symm⟩
theorem zfF.done {l:List An} {a:An} {m:List An} (h:zfF l a l.length true m):m=zb2 l a:=by
 rcases h with ⟨h,_⟩ | ⟨_,h,rfl⟩
 ·cases h
 ·rw [List.take_length]
theorem zfF.last {l:List An} {a:An} {m:List An} (h:zfF l a l.length false m):m++[a]=zb2 l a:=by
 rcases h with ⟨_,h,rfl⟩ | ⟨h,_⟩
 ·rw [List.take_length] at *
  exact (zmi h).symm
 ·cases h

theorem zjK {w wx:World} {o1 o2 o3 o4 o5:Obj} (h:Ext (((((w.alloc o1).alloc o2).alloc o3).alloc o4).alloc o5) wx):wx.heap[w.heap.size]?=some o1/\wx.heap[w.heap.size+1]?=some o2/\wx.heap[w.heap.size+1+1]?=some o3/\wx.heap[w.heap.size+1+1+1]?=some o4/\wx.heap[w.heap.size+1+1+1+1]?=some o5:=by
 have h3:Ext (((w.alloc o1).alloc o2).alloc o3) wx:=(((Ext.refl _).alloc o4).alloc o5).trans h
 obtain ⟨a1,a2,a3⟩:=zgL h3
 have a4:=zcX h
 have a5:=zci h
 exact ⟨a1,a2,a3,by simpa using a4,by simpa using a5⟩

theorem zis {w:World} (e:TypeId) (y:An):Row (w.alloc (.cells #[I y.client,I y.token,I y.reply.err,I y.reply.n] e)) 4 (.slice (some ⟨w.heap.size,0,none⟩) 1 1) 1 (zbT [y]):=by
 have:=World.ownsRow_lit (base:=0) (e:=e) (size:=4) w #[I y.client,I y.token,I y.reply.err,I y.reply.n] 1 (Nat.zero_le _) (by decide) rfl
 exact Row.of_owns this
theorem zfn {w:World} (o:Obj) (e:TypeId) (y:An):Row ((w.alloc o).alloc (.cells #[I y.client,I y.token,I y.reply.err,I y.reply.n] e)) 4 (.slice (some ⟨w.heap.size+1,0,none⟩) 1 1) 1 (zbT [y]):=by
 have:=zis (w:=w.alloc o) e y
 have e2:(w.alloc o).heap.size=w.heap.size+1:=by simp
 rw [e2] at this
 exact this

theorem zcT (l:List Rq):∀ u ∈ zaN l,u.oneCell'=true:=by
 intro u hu
 unfold zaN at hu
 rw [List.mem_flatMap] at hu
 obtain ⟨p,_,hp⟩:=hu
 simp at hp
 rcases hp with rfl | rfl | rfl | rfl | rfl | rfl <;> rfl
theorem zeg (l m:List Rq):zaN (l++m)=zaN l++zaN m:=by simp [zaN]
theorem zg3 {base e n:Nat} {v:Value} {l:List Rq} {w:World} (h:w.ownsRow base e 6 v n (zaN l)):Rd (fun k=>base<=k) (fun w=>zaq 6 zes w v l) w:=by
 have hl:l.length=n:=by have:=h.1; rw [zhN] at this; omega
 subst hl
 exact (zdY h).imp fun w h=>zbI.2 h

theorem zgP (c u a p:Value) (s:St) (rc rt rk ra ro rn x n:Int) (w:World) (A:Nat->Prop) (h:Rd A (fun w=>zcm w [c,u,a,p] s) w) (hl:s.answers.length<=1000) (hpl:s.past.length<=1000000) :
  zaU Try.prog 54 #[.agg #[c,u,a,p],RQ ⟨rc,rt,⟨rk,ra,ro,rn⟩⟩,.agg #[I x,I n]] w A (fun r w'=>Agg zcm (zb0 s ⟨rc,rt,⟨rk,ra,ro,rn⟩⟩ ⟨x,n⟩) r w'):=by
 unfold zaU;obtain ⟨_,_,_,_,e,h1,h2,h3,h4⟩:=zd4 h;simp at e;obtain ⟨rfl,rfl,rfl,rfl⟩:=e;clear h h2;obtain ⟨ca,cc,rfl⟩:=zam h1.o;obtain ⟨pa,pc,rfl⟩:=zac h4.o;obtain ⟨aa,ac,rfl,g1,g2,g3⟩:=zja h3.o;unfold maxLen at g2;have HG:=zhd g3;have H1:=zhd h1;have H4:=zhd h4;clear g3 h1 h3 h4;have e0:Ext w (((((w.alloc (.cells #[.slice ca s.cells.length cc,u,.slice aa s.answers.length ac,.slice pa s.past.length pc] 30)).alloc (.cells #[I rc,I rt,I rk,I ra,I ro,I rn] 35)).alloc (.cells #[I x,I n] 38)).alloc (.cells zT4 30)).alloc (.cells #[I rc,I rt,I x,I n] 96)):=(((((Ext.refl w).alloc _).alloc _).alloc _).alloc _).alloc _;have HB:=zhd (fun wx (h:Ext (((((w.alloc (.cells #[.slice ca s.cells.length cc,u,.slice aa s.answers.length ac,.slice pa s.past.length pc] 30)).alloc (.cells #[I rc,I rt,I rk,I ra,I ro,I rn] 35)).alloc (.cells #[I x,I n] 38)).alloc (.cells zT4 30)).alloc (.cells #[I rc,I rt,I x,I n] 96)) wx)=>zjK h);have hsz:(((((w.alloc (.cells #[.slice ca s.cells.length cc,u,.slice aa s.answers.length ac,.slice pa s.past.length pc] 30)).alloc (.cells #[I rc,I rt,I rk,I ra,I ro,I rn] 35)).alloc (.cells #[I x,I n] 38)).alloc (.cells zT4 30)).alloc (.cells #[I rc,I rt,I x,I n] 96)).heap.size=w.heap.size+5:=by simp
 have HSZ:=zhd hsz;clear hsz;obtain ⟨i0,hi,hz0,hz1,hz2⟩:=info_parts Try.infoAnswer;have HI:=zhd hi;clear hi;go_enter Try.func54,Try.ntmps54
 go_wp2
 generalize hw1:((((w.alloc (.cells #[.slice ca s.cells.length cc,u,.slice aa s.answers.length ac,.slice pa s.past.length pc] 30)).alloc (.cells #[I rc,I rt,I rk,I ra,I ro,I rn] 35)).alloc (.cells #[I x,I n] 38)).alloc (.cells zT4 30)).alloc (.cells #[I rc,I rt,I x,I n] 96)=w1 at *;clear hw1;go_loopw [8,9,21] (fun o d i wr=>∃ (k:Nat) (m:List An) (db:Bool),k<=s.answers.length/\i=I k/\d=.bool db/\zfF s.answers ⟨rc,rt,⟨x,n⟩⟩ k db m/\wr.ownsRow w1.heap.size 96 4 o k (zbT m)/\Ext w1 wr) (fun _ _ i _=>s.answers.length - (intOf i).toNat)
 case atStart=>exact ⟨0,[],false,by omega,rfl,rfl,.inl ⟨rfl,fun x hx=>by simp at hx,by simp⟩,World.ownsRow_nil _ _ _ _,Ext.refl _⟩
 case round =>
  obtain ⟨k,m,db,hk,rfl,rfl,hput,hown,he⟩:=hrel;by_cases hlt:k < s.answers.length
  ·obtain ⟨y,hy⟩:∃ y,s.answers[k]?=some y:=⟨s.answers[k],List.getElem?_eq_getElem hlt⟩;obtain ⟨b,off,rfl,c0,c1,c2,c3⟩:=HG.o k y hy;have HY:=zhd hy;clear hy;have mr:Ext w wr:=e0.trans he;replace c0:=mr.cell c0;replace c1:=mr.cell c1;replace c2:=mr.cell c2;replace c3:=mr.cell c3;obtain ⟨yc,yt,⟨ye,yn⟩⟩:=y;obtain ⟨-,b1,-,-,b4⟩:=HB.o wr he;obtain ⟨⟨q0,q1,q2,q3,q4,q5⟩,-⟩:=zjo b1;obtain ⟨z0,z1,z2,z3,-⟩:=zdo b4;replace q0:=fun o=>((Ext.refl wr).alloc o).cell q0;replace z0:=fun o=>((Ext.refl wr).alloc o).cell z0;replace z1:=fun o=>((Ext.refl wr).alloc o).cell z1;replace z2:=fun o=>((Ext.refl wr).alloc o).cell z2;replace z3:=fun o=>((Ext.refl wr).alloc o).cell z3;have HO:=zhd hown;have HPT:=zhd hput;clear hown hput b1 b4 q1 q2 q3 q4 q5;cases db
   ·by_cases hc:yc=rc
    ·have hb:(yc == rc)=true:=by simpa using hc
     have HC:=zhd hc;clear hc;go_wp2_with (at_builtin; refine zbl ?_)
     unfold Hid;have hlit:=zfn (w:=wr) (.cells #[I rc,I rt,I x,I n] 96) 96 ⟨rc,rt,⟨x,n⟩⟩;have hle:=he.size;refine zav _ rfl (.tmp 35) (.tmp 37) 27 rfl w1.heap.size 96 i0 (.agg #[.int .i64 0,.int .i64 0,.int .i64 0,.int .i64 0]) 4 32 zkP HI.o hz0 hz1 hz2 rfl (by decide) u8 k (zbT m) rfl ((HO.o.alloc _).alloc _) _ rfl 1 _ hlit (zdl _) (by omega) (by decide) (by simp; omega) ?_;intro v' w' ho hg;have he2:Ext w1 w':=((he.alloc _).alloc _).grown hg (fun j hj=>(HO.o.lt j hj).1);clear hg hlit c0 c1 c2 c3 q0 z0 z1 z2 z3;go_wp2
     go_roundw
     case rel=>exact ⟨k+1,m++[⟨rc,rt,⟨x,n⟩⟩],true,by omega,by go_num,rfl,HPT.o.hit HY.o HC.o,by rw [zcI]; exact ho,he2⟩
     case measure=>simp [intOf]; omega
    ·have hb:(yc == rc)=false:=by simpa using hc
     have HC:=zhd hc;clear hc;go_wp2_with (at_builtin; refine zbl ?_)
     unfold Hid;have hlit:=zfn (w:=wr) (.cells #[I yc,I yt,I ye,I yn] 96) 96 ⟨yc,yt,⟨ye,yn⟩⟩;have hle:=he.size;refine zav _ rfl (.tmp 35) (.tmp 37) 27 rfl w1.heap.size 96 i0 (.agg #[.int .i64 0,.int .i64 0,.int .i64 0,.int .i64 0]) 4 32 zkP HI.o hz0 hz1 hz2 rfl (by decide) u8 k (zbT m) rfl ((HO.o.alloc _).alloc _) _ rfl 1 _ hlit (zdl _) (by omega) (by decide) (by simp; omega) ?_;intro v' w' ho hg;have he2:Ext w1 w':=((he.alloc _).alloc _).grown hg (fun j hj=>(HO.o.lt j hj).1);clear hg hlit c0 c1 c2 c3 q0 z0 z1 z2 z3;go_wp2
     go_roundw
     case rel=>exact ⟨k+1,m++[⟨yc,yt,⟨ye,yn⟩⟩],false,by omega,by go_num,rfl,HPT.o.miss HY.o HC.o,by rw [zcI]; exact ho,he2⟩
     case measure=>simp [intOf]; omega
   ·by_cases hc:yc=rc
    ·have hb:(yc == rc)=true:=by simpa using hc
     clear hc;go_wp2_with (at_builtin; refine zbl ?_)
     unfold Hid;have hlit:=zfn (w:=wr) (.cells #[I yc,I yt,I ye,I yn] 96) 96 ⟨yc,yt,⟨ye,yn⟩⟩;have hle:=he.size;refine zav _ rfl (.tmp 35) (.tmp 37) 27 rfl w1.heap.size 96 i0 (.agg #[.int .i64 0,.int .i64 0,.int .i64 0,.int .i64 0]) 4 32 zkP HI.o hz0 hz1 hz2 rfl (by decide) u8 k (zbT m) rfl ((HO.o.alloc _).alloc _) _ rfl 1 _ hlit (zdl _) (by omega) (by decide) (by simp; omega) ?_;intro v' w' ho hg;have he2:Ext w1 w':=((he.alloc _).alloc _).grown hg (fun j hj=>(HO.o.lt j hj).1);clear hg hlit c0 c1 c2 c3 q0 z0 z1 z2 z3;go_wp2
     go_roundw
     case rel=>exact ⟨k+1,m++[⟨yc,yt,⟨ye,yn⟩⟩],true,by omega,by go_num,rfl,HPT.o.after HY.o,by rw [zcI]; exact ho,he2⟩
     case measure=>simp [intOf]; omega
    ·have hb:(yc == rc)=false:=by simpa using hc
     clear hc;go_wp2_with (at_builtin; refine zbl ?_)
     unfold Hid;have hlit:=zfn (w:=wr) (.cells #[I yc,I yt,I ye,I yn] 96) 96 ⟨yc,yt,⟨ye,yn⟩⟩;have hle:=he.size;refine zav _ rfl (.tmp 35) (.tmp 37) 27 rfl w1.heap.size 96 i0 (.agg #[.int .i64 0,.int .i64 0,.int .i64 0,.int .i64 0]) 4 32 zkP HI.o hz0 hz1 hz2 rfl (by decide) u8 k (zbT m) rfl ((HO.o.alloc _).alloc _) _ rfl 1 _ hlit (zdl _) (by omega) (by decide) (by simp; omega) ?_;intro v' w' ho hg;have he2:Ext w1 w':=((he.alloc _).alloc _).grown hg (fun j hj=>(HO.o.lt j hj).1);clear hg hlit c0 c1 c2 c3 q0 z0 z1 z2 z3;go_wp2
     go_roundw
     case rel=>exact ⟨k+1,m++[⟨yc,yt,⟨ye,yn⟩⟩],true,by omega,by go_num,rfl,HPT.o.after HY.o,by rw [zcI]; exact ho,he2⟩
     case measure=>simp [intOf]; omega
  ·have hkl:k=s.answers.length:=by omega
   subst hkl;clear hlt hk;have HO:=zhd hown;have HPT:=zhd hput;clear hown hput;cases db
   ·obtain ⟨b0,b1,-,b3,b4⟩:=HB.o wr he;obtain ⟨z0,z1,z2,z3,-⟩:=zdo b4;go_wp2_with (at_builtin; refine zbl ?_)
    unfold Hid;have hlit:=zis (w:=wr) 96 ⟨rc,rt,⟨x,n⟩⟩;have hle:=he.size;refine zav _ rfl (.tmp 42) (.tmp 44) 27 rfl w1.heap.size 96 i0 (.agg #[.int .i64 0,.int .i64 0,.int .i64 0,.int .i64 0]) 4 32 zkP HI.o hz0 hz1 hz2 rfl (by decide) u8 s.answers.length (zbT m) rfl (HO.o.alloc _) _ rfl 1 _ hlit (zdl _) (by omega) (by decide) (by simp; omega) ?_;intro v' wz ho hg;have he2:Ext w1 wz:=(he.alloc _).grown hg (fun j hj=>(HO.o.lt j hj).1);rw [<- zcI,HPT.o.last] at ho;clear hg hlit z0 z1 z2 z3 b0 b1 b3 b4;obtain ⟨b0,b1,-,b3,-⟩:=HB.o wz he2;obtain ⟨x0,x1,x2,x3,-⟩:=zdo b0;obtain ⟨⟨r0,r1,r2,r3,r4,r5⟩,-⟩:=zjo b1;clear b0 b1;obtain ⟨va,vc,hvs⟩:=zac (zfp ho).o;subst hvs;have HO2:=zhd ho;clear ho;obtain ⟨i1,hi1,hy0,hy1,hy2⟩:=info_parts Try.infoRequest;have HI1:=zhd hi1;clear hi1;have mz:Ext w wz:=e0.trans he2;have HP4:=zhd (zbI.1 (H4.o.o.ext zc1 mz));go_wp2_with fail
    refine zbK 9 [none,none,none,some (.inr (zb5 wz.heap.size 35 6 0 [])),none,none,some (.inr fun v wx=>wx.ownsRow wz.heap.size 35 6 v (0+s.past.length) ([]++zaN s.past)),none,some (.inr fun v wx=>Row wx 6 v 1 (zaN [⟨rc,rt,⟨rk,ra,ro,rn⟩⟩]))] (fun v wx=>wx.ownsRow wz.heap.size 35 6 v (0+s.past.length+1) ([]++zaN s.past++zaN [⟨rc,rt,⟨rk,ra,ro,rn⟩⟩])) (by kernel_rfl) (by kernel_rfl) (by kernel_rfl) ?_ (fun v=>zbA _ _ _ _ _ v) ?_
    ·exact ⟨trivial,trivial,trivial,zdP _ _ _ _ _,trivial,trivial,zbA _ _ _ _ _,trivial,fun _ _ _ he h=>Row.ext h he,trivial⟩
    (refine zaj (fun K hK=>?_); go_simp; first | refine hK _ ?_ | refine ⟨(fun h=>by cases h),hK _ ?_⟩; clear hK K)
    refine zax (.slice ca s.cells.length cc) rfl (fun w' hw'=>by have z0:=hw'.cell x0; go_simp) ?_;refine zae fun K h=>?_; go_simp; refine h _ ?_; clear h K;(refine zaj (fun K hK=>?_); go_simp; first | refine hK _ ?_ | refine ⟨(fun h=>by cases h),hK _ ?_⟩; clear hK K)
    refine za0 _ rfl (fun w' hw' hk=>?_) (fun v49=>?_)
    ·have hsz:=hw'.size;clear hk;unfold zaI;go_simp
     exact ⟨(Ext.refl _).alloc _,zdR #[] 0 hsz (by decide) rfl⟩
    refine zae fun K h=>?_; go_simp; refine h _ ?_; clear h K;(refine zaj (fun K hK=>?_); go_simp; first | refine hK _ ?_ | refine ⟨(fun h=>by cases h),hK _ ?_⟩; clear hK K)
    refine zax (.slice pa s.past.length pc) rfl (fun w' hw'=>by have z0:=hw'.cell x3; go_simp) ?_;refine zae fun K h=>?_; go_simp; refine h _ ?_; clear h K;refine za0 _ rfl (fun w' hw' hk=>?_) (fun v52=>?_)
    ·have h49:zb5 wz.heap.size 35 6 0 [] v49 w':=hk 49 (by decide);obtain ⟨vv,ww,hrun,hoo,hee⟩:=zbv (P:=Try.prog) w' wz.heap.size 28 28 35 i1 _ 6 48 zgO HI1.o hy0 hy1 hy2 rfl (by decide) v49 0 _ h49 (.slice pa s.past.length pc) s.past.length _ (HP4.o.ext hw') (zcT _) (by omega) (by decide) hw'.size;exact zcc rfl rfl rfl hrun hee hoo
    refine zae fun K h=>?_; go_simp; refine h _ ?_; clear h K;refine zax (RQ ⟨rc,rt,⟨rk,ra,ro,rn⟩⟩) rfl (fun w' hw'=>by have z0:=hw'.cell r0; have z1:=hw'.cell r1; have z2:=hw'.cell r2; have z3:=hw'.cell r3; have z4:=hw'.cell r4; have z5:=hw'.cell r5; go_simp) ?_;refine zae fun K h=>?_; go_simp; refine h _ ?_; clear h K;refine za0 _ rfl (fun w' hw' hk=>?_) (fun v54=>?_)
    ·have hsz:=hw'.size;clear hk;unfold zaI;go_simp
     exact ⟨(Ext.refl _).alloc _,Row.of_owns (World.ownsRow_lit (base:=0) (size:=6) w' _ 1 (Nat.zero_le _) (by decide) rfl)⟩
    refine zae fun K h=>?_; go_simp; refine h _ ?_; clear h K;refine zaL ⟨_,_,rfl,rfl,rfl,fun w' hw' hk=>?_,fun v55 w5 e5 ho5=>?_⟩
    ·have h52:w'.ownsRow wz.heap.size 35 6 v52 (0+s.past.length) ([]++zaN s.past):=hk 52 (by decide);have h54:Row w' 6 v54 1 (zaN [⟨rc,rt,⟨rk,ra,ro,rn⟩⟩]):=hk 54 (by decide);obtain ⟨vv,ww,hrun,hoo,hgg⟩:=zbt (P:=Try.prog) w' wz.heap.size 28 28 35 i1 _ 6 48 zgO HI1.o hy0 hy1 hy2 rfl (by decide) v52 _ _ h52 v54 1 _ h54 (zcT _) (by omega) (by decide) hw'.size;exact ⟨vv,ww,zcJ rfl rfl rfl hrun,hw'.grown hgg (fun j hj=>(h52.lt j hj).1),hoo⟩
    clear x0 x1 x2 x3 r0 r1 r2 r3 r4 r5;have hro:Rd (fun k=>wz.heap.size<=k) (fun w=>zaq 6 zes w v55 (s.past++[⟨rc,rt,⟨rk,ra,ro,rn⟩⟩])) w5:=zg3 (by simpa [zeg] using ho5);obtain ⟨pa2,pc2,hps⟩:=zac hro.o;rw [show (s.past++[(⟨rc,rt,⟨rk,ra,ro,rn⟩⟩:Rq)]).length=s.past.length+1 by simp] at hps;subst hps;have HRO:=zhd hro;clear hro ho5;have ez5:=e5;replace e5:Ext w1 w5:=he2.trans e5;obtain ⟨-,-,-,b3,-⟩:=HB.o w5 e5;obtain ⟨y0,y1,y2,y3,f0,f1,f2,f3⟩:=zdo b3;go_wp2_with fail
    clear y0 y1 y2 y3 f0 f1 f2 f3;have b5:=set4 b3 (.slice ca s.cells.length cc) (.slice none 0 0) (.slice va (zb2 s.answers ⟨rc,rt,⟨x,n⟩⟩).length vc) (.slice pa2 (s.past.length+1) pc2);obtain ⟨q0,q1,q2,q3,-⟩:=zdo b5;obtain ⟨B,hB⟩:=zei A w.heap.size 5;have n3:¬ B (w.heap.size+1+1+1):=hB.2.2.1 _ (by omega) (by omega);have m6:=zc5 (e0.trans e5) (b:=w.heap.size+1+1+1) (by omega) (.slice ca s.cells.length cc) (.slice none 0 0) (.slice va (zb2 s.answers ⟨rc,rt,⟨x,n⟩⟩).length vc) (.slice pa2 (s.past.length+1) pc2);have hsz:=HSZ.o;have hle5:=he2.size;refine bodyPost_ret (by simp [results,Try.results54,go_sem,q0,q1,q2,q3]; rfl) rfl ?_;refine ⟨_,rfl,m6,Rd.widen (A:=B) (zdm (zcW (s:=zb0 s ⟨rc,rt,⟨rk,ra,ro,rn⟩⟩ ⟨x,n⟩) ?_ ?_ ?_ ?_)) (fun k _ h=>hB.2.2.2 k h)⟩
    ·exact (((((H1.o.widen hB.1).ext (e0.trans e5)).set n3 _ _).set n3 _ _).set n3 _ _).set n3 _ _
    ·exact Rd.all fun w=>zbJ w
    ·exact ((((((zfp HO2.o).ext ez5).widen (B:=B) (fun k _ h=>hB.2.1 k (by omega))).set n3 _ _).set n3 _ _).set n3 _ _).set n3 _ _
    ·exact ((((HRO.o.widen (B:=B) (fun k _ h=>hB.2.1 k (by omega))).set n3 _ _).set n3 _ _).set n3 _ _).set n3 _ _
   ·have ho:=HO.o;rw [HPT.o.done] at ho;obtain ⟨b0,b1,-,b3,-⟩:=HB.o wr he;obtain ⟨x0,x1,x2,x3,-⟩:=zdo b0;obtain ⟨⟨r0,r1,r2,r3,r4,r5⟩,-⟩:=zjo b1;clear b0 b1;obtain ⟨va,vc,hvs⟩:=zac (zfp ho).o;subst hvs;have HO2:=zhd ho;clear ho;obtain ⟨i1,hi1,hy0,hy1,hy2⟩:=info_parts Try.infoRequest;have HI1:=zhd hi1;clear hi1;have mz:Ext w wr:=e0.trans he;have HP4:=zhd (zbI.1 (H4.o.o.ext zc1 mz));go_wp2_with fail
    refine zbK 9 [none,none,none,some (.inr (zb5 wr.heap.size 35 6 0 [])),none,none,some (.inr fun v wx=>wx.ownsRow wr.heap.size 35 6 v (0+s.past.length) ([]++zaN s.past)),none,some (.inr fun v wx=>Row wx 6 v 1 (zaN [⟨rc,rt,⟨rk,ra,ro,rn⟩⟩]))] (fun v wx=>wx.ownsRow wr.heap.size 35 6 v (0+s.past.length+1) ([]++zaN s.past++zaN [⟨rc,rt,⟨rk,ra,ro,rn⟩⟩])) (by kernel_rfl) (by kernel_rfl) (by kernel_rfl) ?_ (fun v=>zbA _ _ _ _ _ v) ?_
    ·exact ⟨trivial,trivial,trivial,zdP _ _ _ _ _,trivial,trivial,zbA _ _ _ _ _,trivial,fun _ _ _ he h=>Row.ext h he,trivial⟩
    (refine zaj (fun K hK=>?_); go_simp; first | refine hK _ ?_ | refine ⟨(fun h=>by cases h),hK _ ?_⟩; clear hK K)
    refine zax (.slice ca s.cells.length cc) rfl (fun w' hw'=>by have z0:=hw'.cell x0; go_simp) ?_;refine zae fun K h=>?_; go_simp; refine h _ ?_; clear h K;(refine zaj (fun K hK=>?_); go_simp; first | refine hK _ ?_ | refine ⟨(fun h=>by cases h),hK _ ?_⟩; clear hK K)
    refine za0 _ rfl (fun w' hw' hk=>?_) (fun v49=>?_)
    ·have hsz:=hw'.size;clear hk;unfold zaI;go_simp
     exact ⟨(Ext.refl _).alloc _,zdR #[] 0 hsz (by decide) rfl⟩
    refine zae fun K h=>?_; go_simp; refine h _ ?_; clear h K;(refine zaj (fun K hK=>?_); go_simp; first | refine hK _ ?_ | refine ⟨(fun h=>by cases h),hK _ ?_⟩; clear hK K)
    refine zax (.slice pa s.past.length pc) rfl (fun w' hw'=>by have z0:=hw'.cell x3; go_simp) ?_;refine zae fun K h=>?_; go_simp; refine h _ ?_; clear h K;refine za0 _ rfl (fun w' hw' hk=>?_) (fun v52=>?_)
    ·have h49:zb5 wr.heap.size 35 6 0 [] v49 w':=hk 49 (by decide);obtain ⟨vv,ww,hrun,hoo,hee⟩:=zbv (P:=Try.prog) w' wr.heap.size 28 28 35 i1 _ 6 48 zgO HI1.o hy0 hy1 hy2 rfl (by decide) v49 0 _ h49 (.slice pa s.past.length pc) s.past.length _ (HP4.o.ext hw') (zcT _) (by omega) (by decide) hw'.size;exact zcc rfl rfl rfl hrun hee hoo
    refine zae fun K h=>?_; go_simp; refine h _ ?_; clear h K;refine zax (RQ ⟨rc,rt,⟨rk,ra,ro,rn⟩⟩) rfl (fun w' hw'=>by have z0:=hw'.cell r0; have z1:=hw'.cell r1; have z2:=hw'.cell r2; have z3:=hw'.cell r3; have z4:=hw'.cell r4; have z5:=hw'.cell r5; go_simp) ?_;refine zae fun K h=>?_; go_simp; refine h _ ?_; clear h K;refine za0 _ rfl (fun w' hw' hk=>?_) (fun v54=>?_)
    ·have hsz:=hw'.size;clear hk;unfold zaI;go_simp
     exact ⟨(Ext.refl _).alloc _,Row.of_owns (World.ownsRow_lit (base:=0) (size:=6) w' _ 1 (Nat.zero_le _) (by decide) rfl)⟩
    refine zae fun K h=>?_; go_simp; refine h _ ?_; clear h K;refine zaL ⟨_,_,rfl,rfl,rfl,fun w' hw' hk=>?_,fun v55 w5 e5 ho5=>?_⟩
    ·have h52:w'.ownsRow wr.heap.size 35 6 v52 (0+s.past.length) ([]++zaN s.past):=hk 52 (by decide);have h54:Row w' 6 v54 1 (zaN [⟨rc,rt,⟨rk,ra,ro,rn⟩⟩]):=hk 54 (by decide);obtain ⟨vv,ww,hrun,hoo,hgg⟩:=zbt (P:=Try.prog) w' wr.heap.size 28 28 35 i1 _ 6 48 zgO HI1.o hy0 hy1 hy2 rfl (by decide) v52 _ _ h52 v54 1 _ h54 (zcT _) (by omega) (by decide) hw'.size;exact ⟨vv,ww,zcJ rfl rfl rfl hrun,hw'.grown hgg (fun j hj=>(h52.lt j hj).1),hoo⟩
    clear x0 x1 x2 x3 r0 r1 r2 r3 r4 r5;have hro:Rd (fun k=>wr.heap.size<=k) (fun w=>zaq 6 zes w v55 (s.past++[⟨rc,rt,⟨rk,ra,ro,rn⟩⟩])) w5:=zg3 (by simpa [zeg] using ho5);obtain ⟨pa2,pc2,hps⟩:=zac hro.o;rw [show (s.past++[(⟨rc,rt,⟨rk,ra,ro,rn⟩⟩:Rq)]).length=s.past.length+1 by simp] at hps;subst hps;have HRO:=zhd hro;clear hro ho5;have ez5:=e5;replace e5:Ext w1 w5:=he.trans e5;obtain ⟨-,-,-,b3,-⟩:=HB.o w5 e5;obtain ⟨y0,y1,y2,y3,f0,f1,f2,f3⟩:=zdo b3;go_wp2_with fail
    clear y0 y1 y2 y3 f0 f1 f2 f3;have b5:=set4 b3 (.slice ca s.cells.length cc) (.slice none 0 0) (.slice va (zb2 s.answers ⟨rc,rt,⟨x,n⟩⟩).length vc) (.slice pa2 (s.past.length+1) pc2);obtain ⟨q0,q1,q2,q3,-⟩:=zdo b5;obtain ⟨B,hB⟩:=zei A w.heap.size 5;have n3:¬ B (w.heap.size+1+1+1):=hB.2.2.1 _ (by omega) (by omega);have m6:=zc5 (e0.trans e5) (b:=w.heap.size+1+1+1) (by omega) (.slice ca s.cells.length cc) (.slice none 0 0) (.slice va (zb2 s.answers ⟨rc,rt,⟨x,n⟩⟩).length vc) (.slice pa2 (s.past.length+1) pc2);have hsz:=HSZ.o;have hle5:=he.size;refine bodyPost_ret (by simp [results,Try.results54,go_sem,q0,q1,q2,q3]; rfl) rfl ?_;refine ⟨_,rfl,m6,Rd.widen (A:=B) (zdm (zcW (s:=zb0 s ⟨rc,rt,⟨rk,ra,ro,rn⟩⟩ ⟨x,n⟩) ?_ ?_ ?_ ?_)) (fun k _ h=>hB.2.2.2 k h)⟩
    ·exact (((((H1.o.widen hB.1).ext (e0.trans e5)).set n3 _ _).set n3 _ _).set n3 _ _).set n3 _ _
    ·exact Rd.all fun w=>zbJ w
    ·exact ((((((zfp HO2.o).ext ez5).widen (B:=B) (fun k _ h=>hB.2.1 k (by omega))).set n3 _ _).set n3 _ _).set n3 _ _).set n3 _ _
    ·exact ((((HRO.o.widen (B:=B) (fun k _ h=>hB.2.1 k (by omega))).set n3 _ _).set n3 _ _).set n3 _ _).set n3 _ _

open Go.RowKit Go.Mk

theorem zgf (i:Int) (w:World) (h0:0<=i) (h1:i<=4000000000000000000) :
  Calls Try.prog 44 #[I i] w fun e w'=>e=.returned (I (1+2 * i))/\w'=w:=by
 go_enter Try.func44,Try.ntmps44
 go_wp2
 go_ret
 exact ⟨rfl,rfl⟩

theorem zhk (i:Int) (w:World) (h0:0<=i) (h1:i<=4000000000000000000) :
  Calls Try.prog 45 #[I i] w fun e w'=>e=.returned (I (1+2 * i+1))/\w'=w:=by
 go_enter Try.func45,Try.ntmps45
 go_wp2_with fail
 refine Calls.same (zgf _ _ (by omega) (by omega)) ?_;go_wp2
 go_ret
 exact ⟨rfl,rfl⟩

theorem zk7 (v:Value) (xs:List Int) (i:Int) (w:World) (hv:zbo w v xs) :
  Calls Try.prog 68 #[v,I i] w fun e w'=>e=.returned (.bool (decide (0<=i/\i < (xs.length:Int))))/\w'=w:=by
 obtain ⟨ao,cap,rfl,h1,h2,h3⟩:=hv.form;unfold maxLen at h2;clear h3 hv;by_cases hi:0<=i
 ·go_enter Try.func68,Try.ntmps68
  go_wp2
  go_ret
  exact ⟨by simp [hi],rfl⟩
 ·go_enter Try.func68,Try.ntmps68
  go_wp2
  go_ret
  exact ⟨by simp; omega,rfl⟩

theorem zjl (v:Value) (xs:List Int) (w:World) (hv:zbo w v xs) :
  Calls Try.prog 43 #[v] w fun e w'=>e=.returned (I (zek xs))/\w'=w:=by
 obtain ⟨ao,cap,rfl,h1,h2,h3⟩:=hv.form;unfold maxLen at h2;clear hv;by_cases hz:xs.length=0
 ·go_enter Try.func43,Try.ntmps43
  go_wp2
  go_ret
  exact ⟨by simp [zek,hz],rfl⟩
 ·obtain ⟨b,off,rfl,hc⟩:=h3 0 (by omega);clear h3;simp only [Nat.add_zero] at hc;go_enter Try.func43,Try.ntmps43
  go_wp2
  all_goals
   go_ret
   refine ⟨zeF ?_,rfl⟩
   unfold zek
   rw [if_neg hz,List.getD_eq_getElem?_getD]
   omega

open Go.RowKit Go.Mk

theorem znt (v:Value) (xs:List Int) (w:World) (hv:zbo w v xs) (hr:xs.length * 8<=140737488355328) :
  Calls Try.prog 67 #[v] w fun e w'=>e=.returned (.slice (some ⟨w.heap.size,0,none⟩) xs.length xs.length)/\w'.ownsRow w.heap.size 3 1 (.slice (some ⟨w.heap.size,0,none⟩) xs.length xs.length) xs.length (xs.map I)/\Ext w w':=by
 obtain ⟨i0,hi,hz0,hz1,hz2⟩:=info_parts Try.infoInt;obtain ⟨hlen,ao,cap,rfl,h1,h2,h0,h3⟩:=hv;unfold maxLen at h2;go_enter Try.func67,Try.ntmps67
 go_wp2_with (at_make; refine wpList_make_full _ rfl _ _ 25 rfl w.heap.size 3 i0 (.int .i64 0) 1 zj8 hi hz0 hz1 .i64 .i64 _ _ xs.length rfl rfl rfl rfl (by rw [hz2]; omega) (by unfold maxLen; omega) (Nat.le_refl _) ?_; intro w1 hown hgrow)
 have he1:Ext w w1:=(Ext.refl w).grown hgrow (fun k hk=>by cases hk);obtain ⟨w2,hrun,hown2,hgrow2⟩:=ziD (P:=Try.prog) w1 25 3 3 zj8 Try.infoInt1 w.heap.size w.heap.size xs.length _ (xs.map I) _ hown (Row.ext ⟨hlen,ao,cap,rfl,h1,h2,h0,h3⟩ he1) (zhg xs);have he2:Ext w w2:=he1.grown hgrow2 (fun k hk=>by cases hk; exact Nat.le_refl _);rw [hrun];clear hrun hown hgrow hgrow2 he1 h3;go_wp2
 go_ret
 exact ⟨rfl,hown2,he2⟩

theorem zna (v u:Value) (xs:List Int) (l:List (Int×Int)) (w:World) (hv:zbo w v xs) (hu:zan w u l) (hr:xs.length * 8<=140737488355328) (hr2:l.length * 16<=140737488355328) :
  zba Try.prog 47 #[v,u] w fun r w'=>∃ n,w'.ownsRow w.heap.size 3 1 r n ((zao xs l).map I):=by
 unfold zba;obtain ⟨ao,cap,rfl,h1,h2,h3⟩:=hu.form;unfold maxLen at h2;go_enter Try.func47,Try.ntmps47
 go_wp2_with fail
 refine (znt v xs _ hv hr).mono ?_;rintro e w1 ⟨rfl,hown,he⟩
 generalize hg:w.heap.size=g at hown ⊢;have HG:Hid (w.heap.size=g):=hg;clear hg;go_wp2_with fail
 go_loopw [12] (fun i wr=>∃ k:Nat,k<=l.length/\i=I k/\wr.ownsRow g 3 1 (.slice (some ⟨g,0,none⟩) xs.length xs.length) xs.length ((zao xs (l.take k)).map I)/\Ext w wr) (fun i _=>l.length - (intOf i).toNat)
 case atStart=>exact ⟨0,by omega,rfl,hown,he⟩
 case round =>
  obtain ⟨k,hk,rfl,hown',he'⟩:=hrel;clear hown he;by_cases hlt:k < l.length
  ·obtain ⟨b,off,rfl,hc1,hc2⟩:=h3 k hlt;clear h3;have hd1:=he'.cell hc1;have hd2:=he'.cell hc2;clear hc1 hc2;generalize hp:l.getD k (0,0)=p at hd1 hd2;have HP:Hid (l[k]?=some p):=by unfold Hid; rw [<- hp]; simp [hlt]
   clear hp;obtain ⟨at_,n⟩:=p;simp only [] at hd1 hd2;have hyl:(zao xs (l.take k)).length=xs.length:=zbe _ _;have HN:Hid (zao xs (l.take (k+1))=zde (zao xs (l.take k)) (at_,n)):=by unfold Hid; rw [List.take_add_one,HP.o]; exact zgM _ _ _
   generalize zao xs (l.take k)=ys at hown' HN hyl;have HYL:Hid (ys.length=xs.length):=hyl;clear hyl;have hown2:=fun o=>hown'.alloc o;have fz:∀ o,(wr.alloc o).frozen? ⟨g,at_.toNat,none⟩=false:=fun o=>(hown2 o).frozenAt _;by_cases hin:0<=at_/\at_ < (xs.length:Int)
   ·obtain ⟨i1,i2⟩:=hin
    have hc:∀ o,(wr.alloc o).cell? ⟨g,at_.toNat,none⟩=some (I (ys.getD at_.toNat 0)):=fun o=>by
     rw [(hown2 o).cellAt _ (by omega)];have:at_.toNat < ys.length:=by rw [HYL.o]; omega
     simp [this]
    have i3:at_ < (ys.length:Int):=by rw [HYL.o]; exact i2
    go_wp2_with (go_at_call 68; refine Calls.same (zk7 _ ys at_ _ (zdF (hown2 _))) ?_)
    go_roundw
    case rel =>
     refine ⟨k+1,by omega,by go_num,?_,(he'.alloc _).setCell (by rw [HG.o]; exact Nat.le_refl _) _⟩;rw [HN.o];unfold zde;rw [if_pos ⟨i1,i3⟩,List.map_set];exact ((hown2 _).stored _ _).1
    case measure=>simp [intOf]; omega
   ·have hdc:decide (0<=at_/\at_ < (ys.length:Int))=false:=by rw [HYL.o]; simp; omega
    go_wp2_with (go_at_call 68; refine Calls.same (zk7 _ ys at_ _ (zdF (hown2 _))) ?_)
    go_roundw
    case rel =>
     refine ⟨k+1,by omega,by go_num,?_,he'.alloc _⟩;rw [HN.o];unfold zde;rw [if_neg (by rw [HYL.o]; exact hin)];exact hown2 _
    case measure=>simp [intOf]; omega
  ·go_wp2_with fail
   go_ret
   refine ⟨_,rfl,he',xs.length,?_⟩;rw [List.take_of_length_le (by omega)] at hown';rw [HG.o];exact hown'

open Go.RowKit Go.Mk

open Go.RowKit Go.Mk

end Go.Proofs.Ytdmipnnfoolelaf

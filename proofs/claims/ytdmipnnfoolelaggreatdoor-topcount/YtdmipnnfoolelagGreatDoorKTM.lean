/- zbb of the proof, merged: Frame5 D1 W1b D2 D3 D9 Box S1 S2 M1a M1b E1 E2 E3 E4 E5 E6 E7 E8 E9 S3. -/
import Derived.Test.YtdmipnnfoolelagGreatDoorRows
import Derived.Test.YtdmipnnfoolelagGreatDoorKTD
import Derived.Test.YtdmipnnfoolelagGreatDoorKTI
import Derived.Lib.Hide
import Derived.Test.YtdmipnnfoolelagGreatDoorKTB
import Derived.BigRegion
import Derived.Test.YtdmipnnfoolelagGreatDoorKTC
import Derived.Laws.BitsAllLaws
import Derived.Test.YtdmipnnfoolelagGreatDoorKTA
set_option maxHeartbeats 2000000
set_option maxRecDepth 100000

namespace Go.Proofs.YtdmipnnfoolelagGreatDoor
open Go.RowKit Go.Mk

theorem Tryz.cellsStep:Tryz.prog.cellsOf 108=2:=by kernel_rfl
open Go.RowKit Go.Mk

open Go.RowKit Go.Mk

open Go.RowKit Go.Mk

open Go.RowKit Go.Mk

open Go.RowKit Go.Mk

open Go.RowKit Go.Mk

theorem zcf {w:World} {b:Nat} {t:TypeId} {u v x y:Value} (h:w.heap[b]?=some (.cells #[u,v,x,y] t (0,0))) :
  w.cell? ⟨b,0,none⟩=some u/\w.cell? ⟨b,1,none⟩=some v/\w.cell? ⟨b,2,none⟩=some x/\w.cell? ⟨b,3,none⟩=some y/\w.frozen? ⟨b,0,none⟩=false/\w.frozen? ⟨b,1,none⟩=false/\w.frozen? ⟨b,2,none⟩=false/\w.frozen? ⟨b,3,none⟩=false :=
 ⟨zaS h rfl,zaS h rfl,zaS h rfl,zaS h rfl,zaY h,zaY h,zaY h,zaY h⟩

theorem zaV {a w:World} {b:Nat} {o:Obj} (h:a.heap[b]?=some o) (e:Ext a w):w.heap[b]?=some o:=by
 rw [e.block b (Array.getElem?_eq_some_iff.1 h).1]; exact h

theorem set4 {w:World} {b:Nat} {t:TypeId} {p q r s:Value} (h:w.heap[b]?=some (.cells #[p,q,r,s] t (0,0))) (u v x y:Value) :
  ((((w.setCell ⟨b,0,none⟩ u).setCell ⟨b,1,none⟩ v).setCell ⟨b,2,none⟩ x).setCell ⟨b,3,none⟩ y).heap[b]?=some (.cells #[u,v,x,y] t (0,0)):=by
 have h1:=heap_setCell_same _ _ 0 _ _ u h
 have h2:=heap_setCell_same _ _ 1 _ _ v h1
 have h3:=heap_setCell_same _ _ 2 _ _ x h2
 have h4:=heap_setCell_same _ _ 3 _ _ y h3
 simpa using h4
theorem zbY {a w:World} (h:Ext a w) {b:Nat} (hb:a.heap.size<=b) (u v x y:Value):Ext a ((((w.setCell ⟨b,0,none⟩ u).setCell ⟨b,1,none⟩ v).setCell ⟨b,2,none⟩ x).setCell ⟨b,3,none⟩ y) :=
 (((h.setCell hb u).setCell hb v).setCell hb x).setCell hb y
theorem zcT {w w2:World} {o o':Obj} (e:Ext ((w.alloc o).alloc o') w2):w2.heap[w.heap.size]?=some o:=by
 refine zaV ?_ e
 exact zaV (heap_alloc_new w o) ((Ext.refl _).alloc o')

theorem zdq {w w2:World} {o o':Obj} (e:Ext ((w.alloc o).alloc o') w2):w2.heap[w.heap.size+1]?=some o':=by
 refine zaV ?_ e
 have:=heap_alloc_new (w.alloc o) o'
 simpa using this

theorem znV {w:World} {b:Nat} {t:TypeId} {x0 x1 x2 x3 x4 x5:Value} (h:w.heap[b]?=some (.cells #[x0,x1,x2,x3,x4,x5] t (0,0))) :
  (w.cell? ⟨b,0,none⟩=some x0/\w.cell? ⟨b,1,none⟩=some x1/\w.cell? ⟨b,2,none⟩=some x2/\w.cell? ⟨b,3,none⟩=some x3/\w.cell? ⟨b,4,none⟩=some x4/\w.cell? ⟨b,5,none⟩=some x5) /\
   w.frozen? ⟨b,0,none⟩=false/\w.frozen? ⟨b,1,none⟩=false/\w.frozen? ⟨b,2,none⟩=false/\w.frozen? ⟨b,3,none⟩=false/\w.frozen? ⟨b,4,none⟩=false/\w.frozen? ⟨b,5,none⟩=false :=
 ⟨⟨zaS h rfl,zaS h rfl,zaS h rfl,zaS h rfl,zaS h rfl,zaS h rfl⟩,zaY h,zaY h,zaY h,zaY h,zaY h,zaY h⟩

theorem zug {w:World} {b:Nat} {t:TypeId} {p0 p1 p2 p3 p4 p5:Value} (h:w.heap[b]?=some (.cells #[p0,p1,p2,p3,p4,p5] t (0,0))) (x0 x1 x2 x3 x4 x5:Value) :
  ((((((w.setCell ⟨b,0,none⟩ x0).setCell ⟨b,1,none⟩ x1).setCell ⟨b,2,none⟩ x2).setCell ⟨b,3,none⟩ x3).setCell ⟨b,4,none⟩ x4).setCell ⟨b,5,none⟩ x5).heap[b]?=some (.cells #[x0,x1,x2,x3,x4,x5] t (0,0)):=by
 have h1:=heap_setCell_same _ _ 0 _ _ x0 h
 have h2:=heap_setCell_same _ _ 1 _ _ x1 h1
 have h3:=heap_setCell_same _ _ 2 _ _ x2 h2
 have h4:=heap_setCell_same _ _ 3 _ _ x3 h3
 have h5:=heap_setCell_same _ _ 4 _ _ x4 h4
 have h6:=heap_setCell_same _ _ 5 _ _ x5 h5
 simpa using h6

theorem zi9 {a w:World} (h:Ext a w) {b:Nat} (hb:a.heap.size<=b) (x0 x1 x2 x3 x4 x5:Value) :
  Ext a ((((((w.setCell ⟨b,0,none⟩ x0).setCell ⟨b,1,none⟩ x1).setCell ⟨b,2,none⟩ x2).setCell ⟨b,3,none⟩ x3).setCell ⟨b,4,none⟩ x4).setCell ⟨b,5,none⟩ x5) :=
 (((((h.setCell hb x0).setCell hb x1).setCell hb x2).setCell hb x3).setCell hb x4).setCell hb x5

theorem box2 {w:World} {b:Nat} {t:TypeId} {u v:Value} (h:w.heap[b]?=some (.cells #[u,v] t (0,0))):w.cell? ⟨b,0,none⟩=some u/\w.cell? ⟨b,1,none⟩=some v/\w.frozen? ⟨b,0,none⟩=false/\w.frozen? ⟨b,1,none⟩=false :=
 ⟨zaS h rfl,zaS h rfl,zaY h,zaY h⟩
theorem zvG {w:World} {b:Nat} {t:TypeId} {p q:Value} (h:w.heap[b]?=some (.cells #[p,q] t (0,0))) (u v:Value):((w.setCell ⟨b,0,none⟩ u).setCell ⟨b,1,none⟩ v).heap[b]?=some (.cells #[u,v] t (0,0)):=by
 have h1:=heap_setCell_same _ _ 0 _ _ u h
 have h2:=heap_setCell_same _ _ 1 _ _ v h1
 simpa using h2
theorem zrM {a w:World} (h:Ext a w) {b:Nat} (hb:a.heap.size<=b) (u v:Value):Ext a ((w.setCell ⟨b,0,none⟩ u).setCell ⟨b,1,none⟩ v):=(h.setCell hb u).setCell hb v

theorem zef {w:World} {b b' i:Nat} {x:Value} {o:Obj} (h:w.heap[b]?=some o) (hne:b≠b'):(w.setCell ⟨b',i,none⟩ x).heap[b]?=some o:=by
 rw [Below.heap_setCell w _ x b hne]
 exact h

def zgu (base:Nat) (t:TypeId) (cs:Array Value) (v:Value) (w:World):Prop:=∃ b,v=.pointer (some ⟨b,0,none⟩)/\base<=b/\w.heap[b]?=some (.cells cs t (0,0))

theorem zeq (base:Nat) (t:TypeId) (cs:Array Value):∀ v,zb9 (zgu base t cs v):=fun _ _ _ he ⟨b,e,h1,h2⟩=>⟨b,e,h1,by rw [he.block b (Array.getElem?_eq_some_iff.1 h2).1]; exact h2⟩

theorem zek {w:World} {base:Nat} {t:TypeId} {cs:Array Value} (h:base<=w.heap.size):zgu base t cs (.pointer (some ⟨w.heap.size,0,none⟩)) (w.alloc (.cells cs t)):=⟨_,rfl,h,heap_alloc_new _ _⟩

open Go.RowKit Go.Mk

open Go.RowKit Go.Mk

theorem zia {w wx:World} {o1 o2 o3:Obj} (h:Ext (((w.alloc o1).alloc o2).alloc o3) wx):wx.heap[w.heap.size]?=some o1/\wx.heap[w.heap.size+1]?=some o2/\wx.heap[w.heap.size+1+1]?=some o3:=by
 have h2:Ext ((w.alloc o1).alloc o2) wx:=((Ext.refl _).alloc o3).trans h
 refine ⟨zcT h2,zdq h2,?_⟩
 have:=zbk h
 simpa using this

open Go.RowKit Go.Mk

theorem zcV (n a b:Int) (w:World) :
  Calls Tryz.prog 63 #[I n,I a,I b] w fun e w'=>e=.returned (.bool (decide (a<=n/\n<=b)))/\w'=w:=by
 by_cases hi:a<=n
 ·go_enter Tryz.func63,Tryz.ntmps63
  go_wp2
  go_ret
  exact ⟨by simp [hi],rfl⟩
 ·go_enter Tryz.func63,Tryz.ntmps63
  go_wp2
  go_ret
  exact ⟨by simp; omega,rfl⟩

theorem zkg (n:Int) (has:Bool) (w:World) :
  Calls Tryz.prog 64 #[I n,.bool has] w fun e w'=>e=.returned (.bool (if has then decide (1<=n/\n<=255) else n == 0))/\w'=w:=by
 cases has
 ·go_enter Tryz.func64,Tryz.ntmps64
  go_wp2
  go_ret
  exact ⟨by simp,rfl⟩
 ·go_enter Tryz.func64,Tryz.ntmps64
  go_wp2_with (go_at_call 63; refine Calls.same (zcV _ _ _ _) ?_)
  go_ret
  exact ⟨by simp,rfl⟩

theorem ziy (n:Int) (has:Bool) (w:World) :
  Calls Tryz.prog 65 #[I n,.bool has] w fun e w'=>e=.returned (.bool (if has then decide (-1073741824<=n/\n<=1073741824) else n == 0))/\w'=w:=by
 cases has
 ·go_enter Tryz.func65,Tryz.ntmps65
  go_wp2
  go_ret
  exact ⟨by simp,rfl⟩
 ·go_enter Tryz.func65,Tryz.ntmps65
  go_wp2_with (go_at_call 63; refine Calls.same (zcV _ _ _ _) ?_)
  go_ret
  exact ⟨by simp,rfl⟩

theorem zgZ (k a o n:Int) (w:World):zaw Tryz.prog 42 #[.agg #[I k,I a,I o,I n]] w fun r _=>r=I (wrongCl ⟨k,a,o,n⟩):=by
 unfold zaw;by_cases hk:1<=k/\k<=6
 case neg =>
  have hk':decide (1<=k/\k<=6)=false:=by simpa using hk
  go_enter Tryz.func42,Tryz.ntmps42
  go_wp2_with (go_at_call 63; refine Calls.same (zcV _ _ _ _) ?_)
  go_ret
  exact zkZ ((Ext.refl w).alloc _) (congrArg I (show 1=_ by simp only [wrongCl]; rw [if_pos hk]))
 have hk2:k=1∨k=2∨k=3∨k=4∨k=5∨k=6:=by omega
 clear hk;rcases hk2 with rfl | rfl | rfl | rfl | rfl | rfl
 all_goals
  go_enter Tryz.func42,Tryz.ntmps42
  go_wp2_with (first
   | (go_at_call 63; refine Calls.same (zcV _ _ _ _) ?_)
   | (go_at_call 64; refine Calls.same (zkg _ _ _) ?_)
   | (go_at_call 65; refine Calls.same (ziy _ _ _) ?_))
 all_goals
  go_ret
  refine zkZ ((Ext.refl w).alloc _) ?_
  first | refine congrArg I (show 0=_ from ?_) | refine congrArg I (show 7=_ from ?_) | refine congrArg I (show 3=_ from ?_)
  simp only [Bool.not_eq_eq_eq_not,Bool.not_true,Bool.not_false,decide_eq_true_eq,decide_eq_false_iff_not,beq_iff_eq,beq_eq_false_iff_ne] at *
  unfold wrongCl
  dsimp only
  repeat' split
  all_goals omega

open Go.RowKit Go.Mk

open Go.RowKit Go.Mk

abbrev RQ (r:Rq):Value:=.agg #[I r.client,I r.token,I r.call.kind,I r.call.name,I r.call.other,I r.call.n]
abbrev AN (a:An):Value:=.agg #[I a.client,I a.token,I a.reply.err,I a.reply.n]

theorem zdP (n a b:Int) (w:World) :
  Calls Tryz.prog 162 #[I n,I a,I b] w fun e w'=>e=.returned (.bool (decide (a<=n/\n<=b)))/\w'=w:=by
 by_cases hi:a<=n
 ·go_enter Tryz.func162,Tryz.ntmps162
  go_wp2
  go_ret
  exact ⟨by simp [hi],rfl⟩
 ·go_enter Tryz.func162,Tryz.ntmps162
  go_wp2
  go_ret
  exact ⟨by simp; omega,rfl⟩

theorem zc9 (c t:Int) (w:World) :
  Calls Tryz.prog 152 #[I c,I t] w fun e w'=>e=.returned (.bool (decide (0<=c/\c < 3/\0<=t/\t < 8)))/\w'=w:=by
 by_cases hi:0<=c/\c<=2
 ·have hi':decide (0<=c/\c<=2)=true:=by simp [hi]
  go_enter Tryz.func152,Tryz.ntmps152
  go_wp2_with (go_at_call 162; refine Calls.same (zdP _ _ _ _) ?_)
  go_ret
  exact ⟨zgc (by rw [Bool.eq_iff_iff]; simp; omega),rfl⟩
 ·have hi':decide (0<=c/\c<=2)=false:=by simpa using hi
  go_enter Tryz.func152,Tryz.ntmps152
  go_wp2_with (go_at_call 162; refine Calls.same (zdP _ _ _ _) ?_)
  go_ret
  exact ⟨zgc (by rw [Bool.eq_iff_iff]; simp; omega),rfl⟩

theorem zfK (e0 n:Int) (w:World) :
  Calls Tryz.prog 153 #[.agg #[I e0,I n]] w fun e w'=>e=.returned (.bool (decide (¬ (e0 < 0∨12 < e0∨1073741824 < n∨n < -1073741824∨(0 < e0/\n≠0)))))/\Ext w w':=by
 by_cases hz:e0=0
 ·subst hz;go_enter Tryz.func153,Tryz.ntmps153
  go_wp2_with (go_at_call 162; refine Calls.same (zdP _ _ _ _) ?_)
  go_ret
  exact ⟨zgc (by rw [Bool.eq_iff_iff]; simp; omega),(Ext.refl w).alloc _⟩
 have hz':(e0 == 0)=false:=by simpa using hz
 by_cases hi:0<=e0/\e0<=12
 ·have hi':decide (0<=e0/\e0<=12)=true:=by simp [hi]
  go_enter Tryz.func153,Tryz.ntmps153
  go_wp2_with (go_at_call 162; refine Calls.same (zdP _ _ _ _) ?_)
  go_ret
  refine ⟨zgc ?_,(Ext.refl w).alloc _⟩;rw [Bool.eq_iff_iff]; simp; omega
 ·have hi':decide (0<=e0/\e0<=12)=false:=by simpa using hi
  go_enter Tryz.func153,Tryz.ntmps153
  go_wp2_with (go_at_call 162; refine Calls.same (zdP _ _ _ _) ?_)
  go_ret
  exact ⟨zgc (by rw [Bool.eq_iff_iff]; simp; omega),(Ext.refl w).alloc _⟩

open Go.RowKit Go.Mk

theorem zoT {c t k a o n:Int} (h:¬ (0<=c/\c < 3/\0<=t/\t < 8)):zbI ⟨c,t,⟨k,a,o,n⟩⟩=3:=if_pos h
theorem zno {c t k a o n:Int} (h:0<=c/\c < 3/\0<=t/\t < 8):zbI ⟨c,t,⟨k,a,o,n⟩⟩=wrongCl ⟨k,a,o,n⟩:=if_neg (by simp [h])

theorem zhL (c t k a o n:Int) (w:World) :
  Calls Tryz.prog 148 #[RQ ⟨c,t,⟨k,a,o,n⟩⟩] w fun e w'=>e=.returned (I (zbI ⟨c,t,⟨k,a,o,n⟩⟩))/\Ext w w':=by
 by_cases hi:0<=c/\c < 3/\0<=t/\t < 8
 ·have hi':decide (0<=c/\c < 3/\0<=t/\t < 8)=true:=decide_eq_true hi;rw [zno hi];clear hi;go_enter Tryz.func148,Tryz.ntmps148
  go_wp2_with (go_at_call 152; refine Calls.same (zc9 _ _ _) ?_)
  refine (zgZ k a o n _).to fun r w1 e1 hr=>?_;subst hr;go_wp2
  go_ret
  exact ⟨rfl,((Ext.refl w).alloc _).trans e1⟩
 ·have hi':decide (0<=c/\c < 3/\0<=t/\t < 8)=false:=decide_eq_false hi;rw [zoT hi];clear hi;go_enter Tryz.func148,Tryz.ntmps148
  go_wp2_with (go_at_call 152; refine Calls.same (zc9 _ _ _) ?_)
  go_ret
  exact ⟨rfl,(Ext.refl w).alloc _⟩

theorem znT {c t e n:Int} (h:¬ (0<=c/\c < 3/\0<=t/\t < 8)):zbp ⟨c,t,⟨e,n⟩⟩=3:=if_pos (.inl h)
theorem zmi {c t e n:Int} (_h:0<=c/\c < 3/\0<=t/\t < 8) (h2:e < 0∨12 < e∨1073741824 < n∨n < -1073741824∨(0 < e/\n≠0)):zbp ⟨c,t,⟨e,n⟩⟩=3:=if_pos (.inr h2)
theorem znY {c t e n:Int} (h:0<=c/\c < 3/\0<=t/\t < 8) (h2:¬ (e < 0∨12 < e∨1073741824 < n∨n < -1073741824∨(0 < e/\n≠0))):zbp ⟨c,t,⟨e,n⟩⟩=0:=if_neg (not_or.2 ⟨by simp [h],h2⟩)

theorem zit (c t e0 n:Int) (w:World) :
  Calls Tryz.prog 142 #[AN ⟨c,t,⟨e0,n⟩⟩] w fun e w'=>e=.returned (I (zbp ⟨c,t,⟨e0,n⟩⟩))/\Ext w w':=by
 by_cases hi:0<=c/\c < 3/\0<=t/\t < 8
 case neg =>
  have hi':decide (0<=c/\c < 3/\0<=t/\t < 8)=false:=decide_eq_false hi;rw [znT hi];clear hi;go_enter Tryz.func142,Tryz.ntmps142
  go_wp2_with (go_at_call 152; refine Calls.same (zc9 _ _ _) ?_)
  go_ret
  exact ⟨rfl,(Ext.refl w).alloc _⟩
 have hi':decide (0<=c/\c < 3/\0<=t/\t < 8)=true:=decide_eq_true hi;by_cases hj:e0 < 0∨12 < e0∨1073741824 < n∨n < -1073741824∨(0 < e0/\n≠0)
 ·have hj':decide (¬ (e0 < 0∨12 < e0∨1073741824 < n∨n < -1073741824∨(0 < e0/\n≠0)))=false:=decide_eq_false (fun h=>h hj);rw [zmi hi hj];have hR:=fun wx=>zfK e0 n wx;rw [hj'] at hR;clear hi hj hj';go_enter Tryz.func142,Tryz.ntmps142
  go_wp2_with (first | (go_at_call 152; refine Calls.same (zc9 _ _ _) ?_) | (go_at_call 153; refine Calls.exts (hR _) (fun w1 e1=>?_)))
  go_ret
  exact ⟨rfl,((Ext.refl w).alloc _).trans e1⟩
 ·have hj':decide (¬ (e0 < 0∨12 < e0∨1073741824 < n∨n < -1073741824∨(0 < e0/\n≠0)))=true:=decide_eq_true hj;rw [znY hi hj];have hR:=fun wx=>zfK e0 n wx;rw [hj'] at hR;clear hi hj hj';go_enter Tryz.func142,Tryz.ntmps142
  go_wp2_with (first | (go_at_call 152; refine Calls.same (zc9 _ _ _) ?_) | (go_at_call 153; refine Calls.exts (hR _) (fun w1 e1=>?_)))
  go_ret
  exact ⟨rfl,((Ext.refl w).alloc _).trans e1⟩

open Go.RowKit Go.Mk

theorem zfe (v:Value) (l:List UInt8) (m:UInt8) (n:Nat) (hn:0 < n) (w:World) (hv:za4 w v l) :
  Calls Tryz.prog 140 #[v,U m,I n] w fun e w'=>e=.returned (.bool (decide (l.length=n/\l.getD 0 0=m)))/\w'=w:=by
 obtain ⟨ao,cap,rfl,h1,h2,h3⟩:=hv.form;unfold maxLen at h2;clear hv;by_cases hl:l.length=n
 ·obtain ⟨b,off,rfl,hc⟩:=h3 0 (by omega);clear h3;simp only [Nat.add_zero] at hc;rw [hl] at h1 ⊢;generalize l.getD 0 0=x at *
  have hu:((x.toNat:Int) == (m.toNat:Int))=decide (x=m):=by
   rw [Bool.eq_iff_iff]; simp; exact ⟨fun h=>UInt8.toNat_inj.1 (by omega),fun h=>by rw [h]⟩
  go_enter Tryz.func140,Tryz.ntmps140
  go_wp2
  go_ret
  exact ⟨by simp,rfl⟩
 ·have hne:(((l.length:Int)) == (n:Int))=false:=by rw [beq_eq_false_iff_ne]; omega
  clear h3;go_enter Tryz.func140,Tryz.ntmps140
  go_wp2
  go_ret
  exact ⟨by simp [hl],rfl⟩

theorem zi7 (x y i m:Nat) (hm:m=2 ^ i) (h:y < m):(x * m) ||| y=x * m+y:=by
 subst hm
 rw [<- Nat.shiftLeft_eq,Nat.shiftLeft_add_eq_or_of_lt h]

theorem zvw (a b c d:Nat) (ha:a < 256) (hb:b < 256) (hc:c < 256) (hd:d < 256) :
  bits BinOp.or IntKind.u32 (bits BinOp.or IntKind.u32 (bits BinOp.or IntKind.u32 ((a:Int) % 4294967296 * 16777216 % 4294967296) ((b:Int) % 4294967296 * 65536 % 4294967296)) ((c:Int) % 4294967296 * 256 % 4294967296)) ((d:Int) % 4294967296)
   = ((((a * 256+b) * 256+c) * 256+d:Nat):Int):=by
 have e0:((a:Int) % 4294967296 * 16777216 % 4294967296)=((a * 16777216:Nat):Int):=by omega
 have e1:((b:Int) % 4294967296 * 65536 % 4294967296)=((b * 65536:Nat):Int):=by omega
 have e2:((c:Int) % 4294967296 * 256 % 4294967296)=((c * 256:Nat):Int):=by omega
 have e3:((d:Int) % 4294967296)=((d:Nat):Int):=by omega
 rw [e0,e1,e2,e3,u32_or_nat _ _ (by omega) (by omega),zi7 a (b * 65536) 24 16777216 (by decide) (by omega),
  show a * 16777216+b * 65536=(a * 256+b) * 65536 by omega,u32_or_nat _ _ (by omega) (by omega),zi7 (a * 256+b) (c * 256) 16 65536 (by decide) (by omega),
  show (a * 256+b) * 65536+c * 256=((a * 256+b) * 256+c) * 256 by omega,u32_or_nat _ _ (by omega) (by omega),zi7 _ d 8 256 (by decide) (by omega)]

theorem zoZ (n:Nat) (h:n < 4294967296):wrap64 (wrap32 (n:Int))=znp n:=by
 unfold wrap64 wrap32 znp
 split <;> omega

theorem zoo (a b c d:UInt8):wrap64 (wrap32 (bits BinOp.or IntKind.u32 (bits BinOp.or IntKind.u32 (bits BinOp.or IntKind.u32 ((a.toNat:Int) % 4294967296 * 16777216 % 4294967296) ((b.toNat:Int) % 4294967296 * 65536 % 4294967296)) ((c.toNat:Int) % 4294967296 * 256 % 4294967296)) ((d.toNat:Int) % 4294967296)))=numB [a,b,c,d]:=by
 have ha:=a.toNat_lt
 have hb:=b.toNat_lt
 have hc:=c.toNat_lt
 have hd:=d.toNat_lt
 rw [zvw _ _ _ _ ha hb hc hd,zoZ _ (by omega)]
 rfl

theorem zjE (v:Value) (a b c d:UInt8) (w:World) (hv:za4 w v [a,b,c,d]) :
  Calls Tryz.prog 141 #[v] w fun e w'=>e=.returned (I (numB [a,b,c,d]))/\Ext w w':=by
 obtain ⟨ao,cap,rfl,h1,h2,h3⟩:=hv.form;unfold maxLen at h2;clear hv;obtain ⟨b0,off,rfl,c0⟩:=h3 0 (by simp);obtain ⟨_,_,e1,c1⟩:=h3 1 (by simp);obtain ⟨_,_,e2,c2⟩:=h3 2 (by simp);obtain ⟨_,_,e3,c3⟩:=h3 3 (by simp);simp only [Option.some.injEq,Addr.mk.injEq,and_true] at e1 e2 e3;obtain ⟨rfl,rfl⟩:=e1;obtain ⟨rfl,rfl⟩:=e2;obtain ⟨rfl,rfl⟩:=e3;clear h3;simp only [Nat.add_zero,List.getD_cons_zero,List.getD_cons_succ,List.length_cons,List.length_nil] at *;go_enter Tryz.func141,Tryz.ntmps141
 go_wp2_with fail
 go_region
 go_wp2
 go_ret
 exact ⟨zec (zoo a b c d),(Ext.refl w).drew⟩

open Go.RowKit Go.Mk

theorem Tryz.infoByte:(Tryz.prog.info? 5).map (fun i=>(i.zero,i.size,i.bytes))=some (some (.int .u8 0),1,1):=by kernel_rfl

theorem byteU (n:Int):(Value.int .u8 (n % 256))=U (Mk.byteOf n):=by
 unfold Mk.byteOf
 refine congrArg (Value.int .u8) ?_
 rw [UInt8.toNat_ofNat']
 omega

theorem zoK (n:Int):[Value.int .u8 (n % 4294967296 / 16777216),.int .u8 (n % 4294967296 / 65536 % 256),.int .u8 (n % 4294967296 / 256 % 256),.int .u8 (n % 256)]=(zeQ n).map U:=by
 unfold zeQ u32
 simp only [List.map_cons,List.map_nil,U,UInt8.toNat_ofNat']
 refine congr (congrArg List.cons (congrArg (Value.int .u8) ?_)) (congr (congrArg List.cons (congrArg (Value.int .u8) ?_)) (congr (congrArg List.cons (congrArg (Value.int .u8) ?_)) (congrArg (fun x=>[Value.int .u8 x]) ?_)))
 all_goals omega

theorem zeV (base:Nat) (v:Value) (cs:List Value) (k:Nat) (n:Int) (w:World) (hv:w.ownsRow base 5 1 v k cs) (hk:k<=100) (hb:base<=w.heap.size) :
  Calls Tryz.prog 133 #[v,I n] w fun e w'=>∃ v',e=.returned v'/\w'.ownsRow base 5 1 v' (k+4) (cs++(zeQ n).map U)/\w.grownBy w' v.ownBlock:=by
 have hlit:=zqe (w:=w) 5 (zeQ n) #[.int .u8 (n % 4294967296 / 16777216),.int .u8 (n % 4294967296 / 65536 % 256),.int .u8 (n % 4294967296 / 256 % 256),.int .u8 (n % 256)] 4 (zoK n) rfl (by decide);have hgr:w.grownBy (w.alloc (.cells #[.int .u8 (n % 4294967296 / 16777216),.int .u8 (n % 4294967296 / 65536 % 256),.int .u8 (n % 4294967296 / 256 % 256),.int .u8 (n % 256)] 5)) v.ownBlock:=Ext.grownBy ((Ext.refl w).alloc _) _;have HV:=zhd hv;clear hv;go_enter Tryz.func133,Tryz.ntmps133
 go_wp2_with (at_builtin; refine zb7 ?_)
 unfold Hid;obtain ⟨i0,hi,hz0,hz1,hz2⟩:=info_parts Tryz.infoByte;refine zaJ _ rfl (.tmp 8) (.tmp 20) 70 rfl base 5 i0 (.int .u8 0) 1 1 zpT hi hz0 hz1 hz2 rfl (by decide) v k cs rfl (HV.o.alloc _) _ rfl 4 ((zeQ n).map U) hlit (zmI _) (by omega) (by decide) (by simp; omega) ?_;intro v' w' ho hg;clear hi hz0 hz1 hz2 hlit;go_wp2
 go_ret
 exact ⟨v',rfl,ho,zaz hgr hg⟩

open Go.RowKit Go.Mk

theorem zrw {w:World} {base e:Nat} (b:Nat) (cs:Array Value) (n:Nat) (hb:w.heap.size=b) (hbase:base<=b) (hm:n<=maxLen) (hc:cs.size=n):(w.alloc (.cells cs e)).ownsRow base e 1 (.slice (some ⟨b,0,none⟩) n n) n cs.toList:=by
 subst hb
 exact World.ownsRow_lit (base:=base) (e:=e) (size:=1) w cs n hbase hm (by omega)

theorem zqM (c t k a o n:Int):[Value.int .u8 113,.int .u8 (c % 256),.int .u8 (t % 256),.int .u8 (k % 256),.int .u8 (a % 256),.int .u8 (o % 256)]++(zeQ n).map U=(zbv ⟨c,t,⟨k,a,o,n⟩⟩).map U:=by
 rw [byteU,byteU,byteU,byteU,byteU]
 unfold zbv
 rw [List.map_append]
 rfl
theorem zpK (c t e0 n:Int):[Value.int .u8 97,.int .u8 (c % 256),.int .u8 (t % 256),.int .u8 (e0 % 256)]++(zeQ n).map U=(zbF ⟨c,t,⟨e0,n⟩⟩).map U:=by
 rw [byteU,byteU,byteU]
 unfold zbF
 rw [List.map_append]
 rfl

theorem zmJ (c t k a o n:Int) (w:World) :
  Calls Tryz.prog 119 #[RQ ⟨c,t,⟨k,a,o,n⟩⟩] w fun e w'=>∃ v',e=.returned v'/\w'.ownsRow w.heap.size 5 1 v' 10 ((zbv ⟨c,t,⟨k,a,o,n⟩⟩).map U)/\Ext w w':=by
 go_enter Tryz.func119,Tryz.ntmps119
 go_wp2_with fail
 refine (zeV w.heap.size _ _ 6 n _ (zrw (w.heap.size+1+1) _ 6 (by simp) (by omega) (by decide) rfl) (by decide) (by simp; omega)).mono ?_;rintro e w1 ⟨v',rfl,ho,hg⟩
 have e1:Ext w w1:=Ext.grown ((((Ext.refl w).alloc _).alloc _).alloc _) hg (fun j hj=>by simp [Value.ownBlock] at hj; omega);clear hg;go_wp2
 go_ret
 exact ⟨v',rfl,by rw [<- zqM]; exact ho,e1⟩

theorem zi5 (c t e0 n:Int) (w:World) :
  Calls Tryz.prog 137 #[AN ⟨c,t,⟨e0,n⟩⟩] w fun e w'=>∃ v',e=.returned v'/\w'.ownsRow w.heap.size 5 1 v' 8 ((zbF ⟨c,t,⟨e0,n⟩⟩).map U)/\Ext w w':=by
 go_enter Tryz.func137,Tryz.ntmps137
 go_wp2_with fail
 refine (zeV w.heap.size _ _ 4 n _ (zrw (w.heap.size+1) _ 4 (by simp) (by omega) (by decide) rfl) (by decide) (by simp; omega)).mono ?_;rintro e w1 ⟨v',rfl,ho,hg⟩
 have e1:Ext w w1:=Ext.grown (((Ext.refl w).alloc _).alloc _) hg (fun j hj=>by simp [Value.ownBlock] at hj; omega);clear hg;go_wp2
 go_ret
 exact ⟨v',rfl,by rw [<- zpK]; exact ho,e1⟩

open Go.RowKit Go.Mk

open Go.RowKit Go.Mk

theorem zts {w:World} {v:Value} {b0 b1 b2 b3 b4 b5 b6 b7 b8 b9:UInt8} (h:za4 w v [b0,b1,b2,b3,b4,b5,b6,b7,b8,b9]):∃ b off cap,v=.slice (some ⟨b,off,none⟩) 10 cap/\10<=cap/\cap<=maxLen /\
  (w.cell? ⟨b,off,none⟩=some (U b0)/\w.cell? ⟨b,off+1,none⟩=some (U b1)/\w.cell? ⟨b,off+2,none⟩=some (U b2)/\w.cell? ⟨b,off+3,none⟩=some (U b3)/\w.cell? ⟨b,off+4,none⟩=some (U b4)/\w.cell? ⟨b,off+5,none⟩=some (U b5)) /\
   za4 w (.slice (some ⟨b,off+6,none⟩) 4 (cap - 6)) [b6,b7,b8,b9]:=by
 obtain ⟨ao,cap,rfl,h1,h2,h3⟩:=h.form
 obtain ⟨b,off,rfl,c0⟩:=h3 0 (by simp)
 refine ⟨b,off,cap,rfl,h1,h2,⟨c0,?_,?_,?_,?_,?_⟩,h.drop 6 (by simp)⟩
 ·obtain ⟨_,_,e1,c1⟩:=h3 1 (by simp); cases e1; exact c1
 ·obtain ⟨_,_,e1,c1⟩:=h3 2 (by simp); cases e1; exact c1
 ·obtain ⟨_,_,e1,c1⟩:=h3 3 (by simp); cases e1; exact c1
 ·obtain ⟨_,_,e1,c1⟩:=h3 4 (by simp); cases e1; exact c1
 ·obtain ⟨_,_,e1,c1⟩:=h3 5 (by simp); cases e1; exact c1

theorem zuk {w:World} {v:Value} {b0 b1 b2 b3 b4 b5 b6 b7:UInt8} (h:za4 w v [b0,b1,b2,b3,b4,b5,b6,b7]):∃ b off cap,v=.slice (some ⟨b,off,none⟩) 8 cap/\8<=cap/\cap<=maxLen /\
  (w.cell? ⟨b,off,none⟩=some (U b0)/\w.cell? ⟨b,off+1,none⟩=some (U b1)/\w.cell? ⟨b,off+2,none⟩=some (U b2)/\w.cell? ⟨b,off+3,none⟩=some (U b3)) /\
   za4 w (.slice (some ⟨b,off+4,none⟩) 4 (cap - 4)) [b4,b5,b6,b7]:=by
 obtain ⟨ao,cap,rfl,h1,h2,h3⟩:=h.form
 obtain ⟨b,off,rfl,c0⟩:=h3 0 (by simp)
 refine ⟨b,off,cap,rfl,h1,h2,⟨c0,?_,?_,?_⟩,h.drop 4 (by simp)⟩
 ·obtain ⟨_,_,e1,c1⟩:=h3 1 (by simp); cases e1; exact c1
 ·obtain ⟨_,_,e1,c1⟩:=h3 2 (by simp); cases e1; exact c1
 ·obtain ⟨_,_,e1,c1⟩:=h3 3 (by simp); cases e1; exact c1

theorem zkq (x:UInt8):IntKind.i64.wrap (x.toNat:Int)=(x.toNat:Int):=by
 have:=x.toNat_lt
 unfold IntKind.wrap
 simp [IntKind.signed,IntKind.bits]
 omega

theorem zmm {l:List UInt8} (h:¬ (l.length=10/\l.getD 0 0=113)):readRq l=(zeroRq,2):=if_pos (by by_cases h1:l.length=10 <;> simp_all)
theorem zmr {l:List UInt8} (h:¬ (l.length=8/\l.getD 0 0=97)):readAn l=(zeroAn,2):=if_pos (by by_cases h1:l.length=8 <;> simp_all)

theorem zh3 (v:Value) (l:List UInt8) (w:World) (hv:za4 w v l) (hf:¬ (l.length=10/\l.getD 0 0=113)) :
  Calls Tryz.prog 138 #[v] w fun e w'=>e=.returned (.tuple #[RQ (readRq l).1,I (readRq l).2])/\Ext w w':=by
 have hff:decide (l.length=10/\l.getD 0 0=113)=false:=decide_eq_false hf;have hF:=fun wx (h:Ext w wx)=>zfe v l 113 10 (by decide) wx (hv.ext h);rw [hff] at hF;rw [zmm hf];clear hv hf hff;go_enter Tryz.func138,Tryz.ntmps138
 go_wp2_with fail
 refine Calls.same (hF _ ((Ext.refl w).alloc _)) ?_;go_wp2
 refine bodyPost_ret (by simp [results,Tryz.results138,go_sem]; rfl) rfl ?_;exact ⟨rfl,(Ext.refl w).alloc _⟩

theorem zh6 (v:Value) (b1 b2 b3 b4 b5 b6 b7 b8 b9:UInt8) (w:World) (hv:za4 w v [113,b1,b2,b3,b4,b5,b6,b7,b8,b9]) :
  Calls Tryz.prog 138 #[v] w fun e w'=>e=.returned (.tuple #[RQ (readRq [113,b1,b2,b3,b4,b5,b6,b7,b8,b9]).1,I (readRq [113,b1,b2,b3,b4,b5,b6,b7,b8,b9]).2])/\Ext w w':=by
 have hF:=fun wx (h:Ext w wx)=>zfe v _ 113 10 (by decide) wx (hv.ext h);have hneg:zbI ⟨b1.toNat,b2.toNat,⟨b3.toNat,b4.toNat,b5.toNat,numB [b6,b7,b8,b9]⟩⟩=0->readRq [113,b1,b2,b3,b4,b5,b6,b7,b8,b9]=(⟨b1.toNat,b2.toNat,⟨b3.toNat,b4.toNat,b5.toNat,numB [b6,b7,b8,b9]⟩⟩,0):=fun h=>if_neg (show ¬ (zbI ⟨b1.toNat,b2.toNat,⟨b3.toNat,b4.toNat,b5.toNat,numB [b6,b7,b8,b9]⟩⟩≠0) from fun k=>k h);have hpos:¬ zbI ⟨b1.toNat,b2.toNat,⟨b3.toNat,b4.toNat,b5.toNat,numB [b6,b7,b8,b9]⟩⟩=0->readRq [113,b1,b2,b3,b4,b5,b6,b7,b8,b9]=(zeroRq,zbI ⟨b1.toNat,b2.toNat,⟨b3.toNat,b4.toNat,b5.toNat,numB [b6,b7,b8,b9]⟩⟩):=fun h=>if_pos (show zbI ⟨b1.toNat,b2.toNat,⟨b3.toNat,b4.toNat,b5.toNat,numB [b6,b7,b8,b9]⟩⟩≠0 from h);have hff:decide ([113,b1,b2,b3,b4,b5,b6,b7,b8,b9].length=10/\[113,b1,b2,b3,b4,b5,b6,b7,b8,b9].getD 0 0=113)=true:=rfl;rw [hff] at hF;clear hff;generalize readRq [113,b1,b2,b3,b4,b5,b6,b7,b8,b9]=RR at *;obtain ⟨R,E⟩:=RR;obtain ⟨b,off,cap,rfl,hc1,hc2,⟨-,c1,c2,c3,c4,c5⟩,h6⟩:=zts hv;have hN:=fun wx (h:Ext w wx)=>zjE _ b6 b7 b8 b9 wx (h6.ext h);unfold maxLen at hc2;clear hv h6;generalize numB [b6,b7,b8,b9]=n at *;have HN:=zhd hneg;have HP:=zhd hpos;clear hneg hpos;have hk6:¬ cap=6:=by omega
 have hbw:=zkq;have e0:Ext w (w.alloc (.cells #[I 0,I 0,I 0,I 0,I 0,I 0] 35)):=(Ext.refl w).alloc _;have HB:=zhd (fun wx (h:Ext (w.alloc (.cells #[I 0,I 0,I 0,I 0,I 0,I 0] 35)) wx)=>zbk h);go_enter Tryz.func138,Tryz.ntmps138
 go_wp2_with fail
 refine Calls.same (hF _ e0) ?_;go_wp2_with fail
 clear hF;generalize hw0:w.alloc (.cells #[I 0,I 0,I 0,I 0,I 0,I 0] 35)=w0 at *;have HW0:=zhd hw0;clear hw0;replace c1:=e0.cell c1;replace c2:=e0.cell c2;replace c3:=e0.cell c3;replace c4:=e0.cell c4;replace c5:=e0.cell c5;refine zap 17 [none,none,none,none,none,none,none,none,none,none,none,none,none,none,some (.inl (I n)),none,some (.inr (zgu w0.heap.size 33 #[I 0,I 0,I 0,I 0]))] (by kernel_rfl) (by kernel_rfl) ?_ ?_
 ·exact ⟨trivial,trivial,trivial,trivial,trivial,trivial,trivial,trivial,trivial,trivial,trivial,trivial,trivial,trivial,trivial,trivial,zeq _ _ _,trivial⟩
 iterate 2 (refine zat (fun K hK=>?_); go_simp; refine hK _ ?_; clear hK K)
 refine zaK (U b3) rfl (fun w' hw'=>by have q0:=hw'.cell c3; go_simp) ?_;iterate 3 (refine zat (fun K hK=>?_); go_simp; refine hK _ ?_; clear hK K)
 refine zaK (U b4) rfl (fun w' hw'=>by have q0:=hw'.cell c4; go_simp) ?_;iterate 3 (refine zat (fun K hK=>?_); go_simp; refine hK _ ?_; clear hK K)
 refine zaK (U b5) rfl (fun w' hw'=>by have q0:=hw'.cell c5; go_simp) ?_;iterate 3 (refine zat (fun K hK=>?_); go_simp; refine hK _ ?_; clear hK K)
 refine zho _ rfl (fun w' hw' _=>?_) ?_
 ·have hg:=zcP (hN w' (e0.trans hw'));unfold za0;go_simp
  exact ⟨Ext.refl _,hg⟩
 (refine zat (fun K hK=>?_); go_simp; refine hK _ ?_; clear hK K)
 refine zbq _ rfl (fun w' hw' hk=>?_) (fun v4=>?_)
 ·clear hk;unfold za0;go_simp
  exact ⟨(Ext.refl _).alloc _,zek hw'.size⟩
 refine za5 ?_;intro w1 e1 hX;obtain ⟨d,rfl,hd0,hd1⟩:zgu w0.heap.size 33 #[I 0,I 0,I 0,I 0] v4 w1:=hX 4;clear hX hN;obtain ⟨x0,x1,x2,x3,f0,f1,f2,f3⟩:=zcf hd1;have e2:=zbY e1 hd0 (I b3.toNat) (I b4.toNat) (I b5.toNat) (I n);have hd2:=set4 hd1 (I b3.toNat) (I b4.toNat) (I b5.toNat) (I n);go_wp2_with fail
 clear x0 x1 x2 x3 f0 f1 f2 f3 c3 c4 c5 hd1 e1;generalize hw2:(((w1.setCell ⟨d,0,none⟩ (I b3.toNat)).setCell ⟨d,1,none⟩ (I b4.toNat)).setCell ⟨d,2,none⟩ (I b5.toNat)).setCell ⟨d,3,none⟩ (I n)=w2 at *;clear hw2;replace c1:=e2.cell c1;replace c2:=e2.cell c2;obtain ⟨x0,x1,x2,x3,-⟩:=zcf hd2;clear hd2;refine zap 11 [none,none,none,none,none,none,none,none,none,none,some (.inr (zgu w0.heap.size 35 #[I 0,I 0,I 0,I 0,I 0,I 0]))] (by kernel_rfl) (by kernel_rfl) ?_ ?_
 ·exact ⟨trivial,trivial,trivial,trivial,trivial,trivial,trivial,trivial,trivial,trivial,zeq _ _ _,trivial⟩
 iterate 2 (refine zat (fun K hK=>?_); go_simp; refine hK _ ?_; clear hK K)
 refine zaK (U b1) rfl (fun w' hw'=>by have q0:=hw'.cell c1; go_simp) ?_;iterate 3 (refine zat (fun K hK=>?_); go_simp; refine hK _ ?_; clear hK K)
 refine zaK (U b2) rfl (fun w' hw'=>by have q0:=hw'.cell c2; go_simp) ?_;(refine zat (fun K hK=>?_); go_simp; refine hK _ ?_; clear hK K)
 refine zaK (.agg #[I b3.toNat,I b4.toNat,I b5.toNat,I n]) rfl (fun w' hw'=>by have q0:=hw'.cell x0; have q1:=hw'.cell x1; have q2:=hw'.cell x2; have q3:=hw'.cell x3; go_simp) ?_;(refine zat (fun K hK=>?_); go_simp; refine hK _ ?_; clear hK K)
 refine zbq _ rfl (fun w' hw' hk=>?_) (fun v5=>?_)
 ·clear hk;unfold za0;go_simp
  exact ⟨(Ext.refl _).alloc _,zek (Nat.le_trans e2.size hw'.size)⟩
 refine za5 ?_;intro w3 e3 hX;obtain ⟨g,rfl,hg0,hg1⟩:zgu w0.heap.size 35 #[I 0,I 0,I 0,I 0,I 0,I 0] v5 w3:=hX 5;clear hX x0 x1 x2 x3 c1 c2;obtain ⟨⟨x0,x1,x2,x3,x4,x5⟩,f0,f1,f2,f3,f4,f5⟩:=znV hg1;have e4:=zi9 (e2.trans e3) hg0 (I b1.toNat) (I b2.toNat) (I b3.toNat) (I b4.toNat) (I b5.toNat) (I n);have hg2:=zug hg1 (I b1.toNat) (I b2.toNat) (I b3.toNat) (I b4.toNat) (I b5.toNat) (I n);go_wp2_with fail
 clear x0 x1 x2 x3 x4 x5 f0 f1 f2 f3 f4 f5 hg1 e3;generalize hw4:(((((w3.setCell ⟨g,0,none⟩ (I b1.toNat)).setCell ⟨g,1,none⟩ (I b2.toNat)).setCell ⟨g,2,none⟩ (I b3.toNat)).setCell ⟨g,3,none⟩ (I b4.toNat)).setCell ⟨g,4,none⟩ (I b5.toNat)).setCell ⟨g,5,none⟩ (I n)=w4 at *;clear hw4 hbw;refine Calls.exts (zhL (b1.toNat:Int) b2.toNat b3.toNat b4.toNat b5.toNat n w4) (fun w5 e5=>?_);have rb:=HB.o w5 (e4.trans e5);obtain ⟨⟨z0,z1,z2,z3,z4,z5⟩,f0,f1,f2,f3,f4,f5⟩:=znV rb;have m5:Ext w w5:=e0.trans (e4.trans e5);by_cases hz:zbI ⟨b1.toNat,b2.toNat,⟨b3.toNat,b4.toNat,b5.toNat,n⟩⟩=0
 ·rw [hz];obtain ⟨⟨x0,x1,x2,x3,x4,x5⟩,-⟩:=znV (zaV hg2 e5);have HZ:=zhd hz;clear hz;go_wp2
  have rb2:=zug rb (I b1.toNat) (I b2.toNat) (I b3.toNat) (I b4.toNat) (I b5.toNat) (I n);obtain ⟨⟨q0,q1,q2,q3,q4,q5⟩,-⟩:=znV rb2;have m6:=zi9 m5 (Nat.le_refl w.heap.size) (I b1.toNat) (I b2.toNat) (I b3.toNat) (I b4.toNat) (I b5.toNat) (I n);clear x0 x1 x2 x3 x4 x5 z0 z1 z2 z3 z4 z5 f0 f1 f2 f3 f4 f5;refine bodyPost_ret (by simp [results,Tryz.results138,go_sem,q0,q1,q2,q3,q4,q5]; rfl) rfl ?_;obtain ⟨h1,h2⟩:=Prod.mk.inj (HN.o HZ.o);rw [h1,h2];exact ⟨rfl,m6⟩
 ·have hb:(zbI ⟨b1.toNat,b2.toNat,⟨b3.toNat,b4.toNat,b5.toNat,n⟩⟩ != 0)=true:=by simpa using hz
  have HZ:=zhd hz;clear hz;go_wp2
  have rb2:=zug rb (I 0) (I 0) (I 0) (I 0) (I 0) (I 0);obtain ⟨⟨q0,q1,q2,q3,q4,q5⟩,-⟩:=znV rb2;have m6:=zi9 m5 (Nat.le_refl w.heap.size) (I 0) (I 0) (I 0) (I 0) (I 0) (I 0);clear z0 z1 z2 z3 z4 z5 f0 f1 f2 f3 f4 f5;refine bodyPost_ret (by simp [results,Tryz.results138,go_sem,q0,q1,q2,q3,q4,q5]; rfl) rfl ?_;obtain ⟨h1,h2⟩:=Prod.mk.inj (HP.o HZ.o);rw [h1,h2];exact ⟨rfl,m6⟩

theorem zuE {l:List UInt8} (h:l.length=10/\l.getD 0 0=113):∃ b1 b2 b3 b4 b5 b6 b7 b8 b9,l=[113,b1,b2,b3,b4,b5,b6,b7,b8,b9]:=by
 obtain ⟨h1,h2⟩:=h
 match l,h1,h2 with
 | [b0,b1,b2,b3,b4,b5,b6,b7,b8,b9],_,h0 =>
  have h0:b0=113:=h0
  subst h0
  exact ⟨_,_,_,_,_,_,_,_,_,rfl⟩
theorem zrY {l:List UInt8} (h:l.length=8/\l.getD 0 0=97):∃ b1 b2 b3 b4 b5 b6 b7,l=[97,b1,b2,b3,b4,b5,b6,b7]:=by
 obtain ⟨h1,h2⟩:=h
 match l,h1,h2 with
 | [b0,b1,b2,b3,b4,b5,b6,b7],_,h0 =>
  have h0:b0=97:=h0
  subst h0
  exact ⟨_,_,_,_,_,_,_,rfl⟩

theorem ziA (v:Value) (l:List UInt8) (w:World) (hv:za4 w v l) :
  Calls Tryz.prog 138 #[v] w fun e w'=>e=.returned (.tuple #[RQ (readRq l).1,I (readRq l).2])/\Ext w w':=by
 by_cases hf:l.length=10/\l.getD 0 0=113
 ·obtain ⟨b1,b2,b3,b4,b5,b6,b7,b8,b9,rfl⟩:=zuE hf
  exact zh6 v b1 b2 b3 b4 b5 b6 b7 b8 b9 w hv
 ·exact zh3 v l w hv hf

open Go.RowKit Go.Mk

theorem ziB (v:Value) (l:List UInt8) (w:World) (hv:za4 w v l) (hf:¬ (l.length=8/\l.getD 0 0=97)) :
  Calls Tryz.prog 124 #[v] w fun e w'=>e=.returned (.tuple #[AN (readAn l).1,I (readAn l).2])/\Ext w w':=by
 have hff:decide (l.length=8/\l.getD 0 0=97)=false:=decide_eq_false hf;have hF:=fun wx (h:Ext w wx)=>zfe v l 97 8 (by decide) wx (hv.ext h);rw [hff] at hF;rw [zmr hf];clear hv hf hff;go_enter Tryz.func124,Tryz.ntmps124
 go_wp2_with fail
 refine Calls.same (hF _ ((Ext.refl w).alloc _)) ?_;go_wp2
 refine bodyPost_ret (by simp [results,Tryz.results124,go_sem]; rfl) rfl ?_;exact ⟨rfl,(Ext.refl w).alloc _⟩

theorem ziC (v:Value) (b1 b2 b3 b4 b5 b6 b7:UInt8) (w:World) (hv:za4 w v [97,b1,b2,b3,b4,b5,b6,b7]) :
  Calls Tryz.prog 124 #[v] w fun e w'=>e=.returned (.tuple #[AN (readAn [97,b1,b2,b3,b4,b5,b6,b7]).1,I (readAn [97,b1,b2,b3,b4,b5,b6,b7]).2])/\Ext w w':=by
 have hF:=fun wx (h:Ext w wx)=>zfe v _ 97 8 (by decide) wx (hv.ext h);have hneg:zbp ⟨b1.toNat,b2.toNat,⟨b3.toNat,numB [b4,b5,b6,b7]⟩⟩=0->readAn [97,b1,b2,b3,b4,b5,b6,b7]=(⟨b1.toNat,b2.toNat,⟨b3.toNat,numB [b4,b5,b6,b7]⟩⟩,0):=fun h=>if_neg (show ¬ (zbp ⟨b1.toNat,b2.toNat,⟨b3.toNat,numB [b4,b5,b6,b7]⟩⟩≠0) from fun k=>k h);have hpos:¬ zbp ⟨b1.toNat,b2.toNat,⟨b3.toNat,numB [b4,b5,b6,b7]⟩⟩=0->readAn [97,b1,b2,b3,b4,b5,b6,b7]=(zeroAn,zbp ⟨b1.toNat,b2.toNat,⟨b3.toNat,numB [b4,b5,b6,b7]⟩⟩):=fun h=>if_pos (show zbp ⟨b1.toNat,b2.toNat,⟨b3.toNat,numB [b4,b5,b6,b7]⟩⟩≠0 from h);have hff:decide ([97,b1,b2,b3,b4,b5,b6,b7].length=8/\[97,b1,b2,b3,b4,b5,b6,b7].getD 0 0=97)=true:=rfl;rw [hff] at hF;clear hff;generalize readAn [97,b1,b2,b3,b4,b5,b6,b7]=RR at *;obtain ⟨R,E⟩:=RR;obtain ⟨b,off,cap,rfl,hc1,hc2,⟨-,c1,c2,c3⟩,h6⟩:=zuk hv;have hN:=fun wx (h:Ext w wx)=>zjE _ b4 b5 b6 b7 wx (h6.ext h);unfold maxLen at hc2;clear hv h6;generalize numB [b4,b5,b6,b7]=n at *;have HN:=zhd hneg;have HP:=zhd hpos;clear hneg hpos;have hk6:¬ cap=4:=by omega
 have hbw:=zkq;have e0:Ext w (w.alloc (.cells #[I 0,I 0,I 0,I 0] 118)):=(Ext.refl w).alloc _;have HB:=zhd (fun wx (h:Ext (w.alloc (.cells #[I 0,I 0,I 0,I 0] 118)) wx)=>zbk h);go_enter Tryz.func124,Tryz.ntmps124
 go_wp2_with fail
 refine Calls.same (hF _ e0) ?_;go_wp2_with fail
 clear hF;generalize hw0:w.alloc (.cells #[I 0,I 0,I 0,I 0] 118)=w0 at *;have HW0:=zhd hw0;clear hw0;replace c1:=e0.cell c1;replace c2:=e0.cell c2;replace c3:=e0.cell c3;refine zap 9 [none,none,none,none,none,none,some (.inl (I n)),none,some (.inr (zgu w0.heap.size 38 #[I 0,I 0]))] (by kernel_rfl) (by kernel_rfl) ?_ ?_
 ·exact ⟨trivial,trivial,trivial,trivial,trivial,trivial,trivial,trivial,zeq _ _ _,trivial⟩
 iterate 2 (refine zat (fun K hK=>?_); go_simp; refine hK _ ?_; clear hK K)
 refine zaK (U b3) rfl (fun w' hw'=>by have q0:=hw'.cell c3; go_simp) ?_;iterate 3 (refine zat (fun K hK=>?_); go_simp; refine hK _ ?_; clear hK K)
 refine zho _ rfl (fun w' hw' _=>?_) ?_
 ·have hg:=zcP (hN w' (e0.trans hw'));unfold za0;go_simp
  exact ⟨Ext.refl _,hg⟩
 (refine zat (fun K hK=>?_); go_simp; refine hK _ ?_; clear hK K)
 refine zbq _ rfl (fun w' hw' hk=>?_) (fun v4=>?_)
 ·clear hk;unfold za0;go_simp
  exact ⟨(Ext.refl _).alloc _,zek hw'.size⟩
 refine za5 ?_;intro w1 e1 hX;obtain ⟨d,rfl,hd0,hd1⟩:zgu w0.heap.size 38 #[I 0,I 0] v4 w1:=hX 4;clear hX hN;obtain ⟨x0,x1,f0,f1⟩:=box2 hd1;have e2:=zrM e1 hd0 (I b3.toNat) (I n);have hd2:=zvG hd1 (I b3.toNat) (I n);go_wp2_with fail
 clear x0 x1 f0 f1 c3 hd1 e1;generalize hw2:(w1.setCell ⟨d,0,none⟩ (I b3.toNat)).setCell ⟨d,1,none⟩ (I n)=w2 at *;clear hw2;replace c1:=e2.cell c1;replace c2:=e2.cell c2;obtain ⟨x0,x1,-⟩:=box2 hd2;clear hd2;refine zap 11 [none,none,none,none,none,none,none,none,none,none,some (.inr (zgu w0.heap.size 118 #[I 0,I 0,I 0,I 0]))] (by kernel_rfl) (by kernel_rfl) ?_ ?_
 ·exact ⟨trivial,trivial,trivial,trivial,trivial,trivial,trivial,trivial,trivial,trivial,zeq _ _ _,trivial⟩
 iterate 2 (refine zat (fun K hK=>?_); go_simp; refine hK _ ?_; clear hK K)
 refine zaK (U b1) rfl (fun w' hw'=>by have q0:=hw'.cell c1; go_simp) ?_;iterate 3 (refine zat (fun K hK=>?_); go_simp; refine hK _ ?_; clear hK K)
 refine zaK (U b2) rfl (fun w' hw'=>by have q0:=hw'.cell c2; go_simp) ?_;(refine zat (fun K hK=>?_); go_simp; refine hK _ ?_; clear hK K)
 refine zaK (.agg #[I b3.toNat,I n]) rfl (fun w' hw'=>by have q0:=hw'.cell x0; have q1:=hw'.cell x1; go_simp) ?_;(refine zat (fun K hK=>?_); go_simp; refine hK _ ?_; clear hK K)
 refine zbq _ rfl (fun w' hw' hk=>?_) (fun v5=>?_)
 ·clear hk;unfold za0;go_simp
  exact ⟨(Ext.refl _).alloc _,zek (Nat.le_trans e2.size hw'.size)⟩
 refine za5 ?_;intro w3 e3 hX;obtain ⟨g,rfl,hg0,hg1⟩:zgu w0.heap.size 118 #[I 0,I 0,I 0,I 0] v5 w3:=hX 5;clear hX x0 x1 c1 c2;obtain ⟨x0,x1,x2,x3,f0,f1,f2,f3⟩:=zcf hg1;have e4:=zbY (e2.trans e3) hg0 (I b1.toNat) (I b2.toNat) (I b3.toNat) (I n);have hg2:=set4 hg1 (I b1.toNat) (I b2.toNat) (I b3.toNat) (I n);go_wp2_with fail
 clear x0 x1 x2 x3 f0 f1 f2 f3 hg1 e3;generalize hw4:(((w3.setCell ⟨g,0,none⟩ (I b1.toNat)).setCell ⟨g,1,none⟩ (I b2.toNat)).setCell ⟨g,2,none⟩ (I b3.toNat)).setCell ⟨g,3,none⟩ (I n)=w4 at *;clear hw4 hbw;refine Calls.exts (zit (b1.toNat:Int) b2.toNat b3.toNat n w4) (fun w5 e5=>?_);have rb:=HB.o w5 (e4.trans e5);obtain ⟨z0,z1,z2,z3,f0,f1,f2,f3⟩:=zcf rb;have m5:Ext w w5:=e0.trans (e4.trans e5);by_cases hz:zbp ⟨b1.toNat,b2.toNat,⟨b3.toNat,n⟩⟩=0
 ·rw [hz];obtain ⟨x0,x1,x2,x3,-⟩:=zcf (zaV hg2 e5);have HZ:=zhd hz;clear hz;go_wp2
  have rb2:=set4 rb (I b1.toNat) (I b2.toNat) (I b3.toNat) (I n);obtain ⟨q0,q1,q2,q3,-⟩:=zcf rb2;have m6:=zbY m5 (Nat.le_refl w.heap.size) (I b1.toNat) (I b2.toNat) (I b3.toNat) (I n);clear x0 x1 x2 x3 z0 z1 z2 z3 f0 f1 f2 f3;refine bodyPost_ret (by simp [results,Tryz.results124,go_sem,q0,q1,q2,q3]; rfl) rfl ?_;obtain ⟨h1,h2⟩:=Prod.mk.inj (HN.o HZ.o);rw [h1,h2];exact ⟨rfl,m6⟩
 ·have hb:(zbp ⟨b1.toNat,b2.toNat,⟨b3.toNat,n⟩⟩ != 0)=true:=by simpa using hz
  have HZ:=zhd hz;clear hz;go_wp2
  have rb2:=set4 rb (I 0) (I 0) (I 0) (I 0);obtain ⟨q0,q1,q2,q3,-⟩:=zcf rb2;have m6:=zbY m5 (Nat.le_refl w.heap.size) (I 0) (I 0) (I 0) (I 0);clear z0 z1 z2 z3 f0 f1 f2 f3;refine bodyPost_ret (by simp [results,Tryz.results124,go_sem,q0,q1,q2,q3]; rfl) rfl ?_;obtain ⟨h1,h2⟩:=Prod.mk.inj (HP.o HZ.o);rw [h1,h2];exact ⟨rfl,m6⟩

theorem zep (v:Value) (l:List UInt8) (w:World) (hv:za4 w v l) :
  Calls Tryz.prog 124 #[v] w fun e w'=>e=.returned (.tuple #[AN (readAn l).1,I (readAn l).2])/\Ext w w':=by
 by_cases hf:l.length=8/\l.getD 0 0=97
 ·obtain ⟨b1,b2,b3,b4,b5,b6,b7,rfl⟩:=zrY hf
  exact ziC v b1 b2 b3 b4 b5 b6 b7 w hv
 ·exact ziB v l w hv hf

open Go.RowKit Go.Mk

open Go.RowKit Go.Mk

theorem zng {w:World} {v:Value} {l:List An} (h:zaj 4 zgO w v l):∃ ao cap,v=.slice ao l.length cap/\l.length<=cap/\cap<=maxLen /\
  ∀ k x,l[k]?=some x->∃ b off,ao=some ⟨b,off,none⟩/\w.cell? ⟨b,off+k * 4,none⟩=some (I x.client)/\w.cell? ⟨b,off+k * 4+1,none⟩=some (I x.token)/\w.cell? ⟨b,off+k * 4+2,none⟩=some (I x.reply.err)/\w.cell? ⟨b,off+k * 4+3,none⟩=some (I x.reply.n):=by
 obtain ⟨ao,cap,h1,h2,h3,-,h5⟩:=h.form (by decide)
 refine ⟨ao,cap,h1,h2,h3,fun k x hx=>?_⟩
 obtain ⟨b,off,c,e,-,hc,hcell⟩:=h5 k x hx
 have hc:c=[I x.client,I x.token,I x.reply.err,I x.reply.n]:=hc
 subst hc
 exact ⟨b,off,e,hcell 0 _ rfl,by rw [Nat.add_assoc]; exact hcell 1 _ rfl,by rw [Nat.add_assoc]; exact hcell 2 _ rfl,by rw [Nat.add_assoc]; exact hcell 3 _ rfl⟩

end Go.Proofs.YtdmipnnfoolelagGreatDoor

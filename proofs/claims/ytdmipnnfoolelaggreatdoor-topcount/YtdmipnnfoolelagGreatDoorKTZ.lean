/- zbb of the proof, merged: P2 P2b P3. -/
import Derived.Test.YtdmipnnfoolelagGreatDoorKTY
import Derived.Test.YtdmipnnfoolelagGreatDoorKTA
import Derived.Lib.Hide
set_option maxHeartbeats 1000000
set_option maxRecDepth 100000

namespace Go.Proofs.YtdmipnnfoolelagGreatDoor
open Go.RowKit Go.Mk

theorem zjq (v:Value) (l:List (Int×Int)) (i:Nat) (w:World) (hv:zar w v l) (hi:i < l.length) (hl:l.length<=5) :
  zaw Tryz.prog 158 #[v,I i] w fun r w'=>Has w.heap.size w' r [(1+2 * (i:Int),(l.getD i (0,0)).1),(2+2 * (i:Int),(l.getD i (0,0)).2),(0,(l.length:Int))]:=by
 unfold zaw;have HN:=fun wx (h:Ext w wx)=>zqY v l i wx (hv.ext h) hi hl;have HM:=fun wx (h:Ext w wx)=>zex v l i wx (hv.ext h) hi hl;have HK:=fun wx (h:Ext w wx)=>ziZ v l wx (hv.ext h);generalize (l.getD i (0,0)).1=p at *;generalize (l.getD i (0,0)).2=q at *;clear hv;go_enter Tryz.func158,Tryz.ntmps158
 go_wp2_with fail
 refine Calls.exts (HN _ (Ext.refl _)) (fun w1 e1=>?_);go_wp2_with fail
 refine Calls.exts (HM _ e1) (fun w2 e2=>?_);replace e2:=e1.trans e2;go_wp2_with fail
 refine Calls.exts (HK _ e2) (fun w3 e3=>?_);replace e3:=e2.trans e3;go_wp2
 go_ret
 exact ⟨_,rfl,e3.alloc _,zhD [(1+2 * (i:Int),p),(2+2 * (i:Int),q),(0,(l.length:Int))] _ 3 rfl rfl (by decide) _ e3.size⟩

theorem zmQ (v:Value) (l:List (Int×Int)) (o:Int) (w:World) (hv:zar w v l) (h0:0 < l.length) (hl:l.length<=5) :
  zaw Tryz.prog 150 #[v,I 1,I (-1),I o] w fun r w'=>Has w.heap.size w' r [(1+2 * ((l.length - 1:Nat):Int),(l.getD (l.length - 1) (0,0)).1),(2+2 * ((l.length - 1:Nat):Int),(l.getD (l.length - 1) (0,0)).2),(0,(l.length:Int))]:=by
 unfold zaw;have HE:=zjq v l (l.length - 1) w hv (by omega) hl;obtain ⟨ao,cap,rfl,h1,h2,-⟩:=hv.form;unfold maxLen at h2;clear hv;generalize (l.getD (l.length - 1) (0,0)).1=p at *;generalize (l.getD (l.length - 1) (0,0)).2=q at *;have hlast:((l.length - 1:Nat):Int)=(l.length:Int) - 1:=by omega
 rw [hlast] at HE ⊢;go_enter Tryz.func150,Tryz.ntmps150
 go_wp2_with fail
 refine HE.to fun r w' he hr=>?_;go_wp2
 go_ret
 exact ⟨_,rfl,he,hr⟩

theorem zlE (v:Value) (l:List (Int×Int)) (i:Nat) (o:Int) (w:World) (hv:zar w v l) (hi:i < l.length) (hl:l.length<=5) :
  zaw Tryz.prog 150 #[v,I 3,I i,I o] w fun r w'=>Has w.heap.size w' r [(1+2 * (i:Int),(l.getD i (0,0)).1),(2+2 * (i:Int),(l.getD i (0,0)).2),(0,(l.length:Int))]:=by
 unfold zaw;have HE:=zjq v l i w hv hi hl;obtain ⟨ao,cap,rfl,h1,h2,-⟩:=hv.form;unfold maxLen at h2;clear hv;generalize (l.getD i (0,0)).1=p at *;generalize (l.getD i (0,0)).2=q at *;have hne:((i:Int) == (l.length:Int))=false:=by simp; omega
 go_enter Tryz.func150,Tryz.ntmps150
 go_wp2_with fail
 refine HE.to fun r w' he hr=>?_;go_wp2
 go_ret
 exact ⟨_,rfl,he,hr⟩

theorem zlV (v:Value) (l:List (Int×Int)) (o:Int) (w:World) (hv:zar w v l) :
  zaw Tryz.prog 150 #[v,I 3,I (l.length:Int),I o] w fun r w'=>Has w.heap.size w' r [(0,(l.length:Int))]:=by
 unfold zaw;have HE:=ziZ v l w hv;obtain ⟨ao,cap,rfl,h1,h2,-⟩:=hv.form;unfold maxLen at h2;clear hv;go_enter Tryz.func150,Tryz.ntmps150
 go_wp2_with fail
 refine Calls.exts HE (fun w1 e1=>?_);go_wp2
 go_ret
 exact ⟨_,rfl,e1.alloc _,zhD [(0,(l.length:Int))] _ 1 rfl rfl (by decide) _ e1.size⟩

theorem ziq (k:Int) (hk:k=1∨k=4) (v:Value) (l:List (Int×Int)) (i:Nat) (o:Int) (w:World) (hv:zar w v l) (hi:i < l.length) (hl:l.length<=5) :
  zaw Tryz.prog 150 #[v,I k,I i,I o] w fun r w'=>Has w.heap.size w' r [(2+2 * (i:Int),(l.getD i (0,0)).2)]:=by
 unfold zaw;have HE:=zex v l i w hv hi hl;generalize (l.getD i (0,0)).2=q at *;have hn:¬ (i:Int) < 0:=by omega
 clear hv;rcases hk with rfl | rfl
 all_goals
  go_enter Tryz.func150,Tryz.ntmps150
  go_wp2_with fail
  refine Calls.exts HE (fun w1 e1=>?_)
  go_wp2
  go_ret
  exact ⟨_,rfl,e1.alloc _,zhD [(2+2 * (i:Int),q)] _ 1 rfl rfl (by decide) _ e1.size⟩

theorem zlX (v:Value) (l:List (Int×Int)) (i j:Nat) (w:World) (hv:zar w v l) (hi:i < l.length) (hj:j < l.length) (hl:l.length<=5) :
  zaw Tryz.prog 150 #[v,I 6,I i,I j] w fun r w'=>Has w.heap.size w' r [(2+2 * (i:Int),(l.getD i (0,0)).2),(2+2 * (j:Int),(l.getD j (0,0)).2)]:=by
 unfold zaw;have HN:=fun wx (h:Ext w wx)=>zex v l i wx (hv.ext h) hi hl;have HM:=fun wx (h:Ext w wx)=>zex v l j wx (hv.ext h) hj hl;generalize (l.getD i (0,0)).2=p at *;generalize (l.getD j (0,0)).2=q at *;clear hv;go_enter Tryz.func150,Tryz.ntmps150
 go_wp2_with fail
 refine Calls.exts (HN _ (Ext.refl _)) (fun w1 e1=>?_);go_wp2_with fail
 refine Calls.exts (HM _ e1) (fun w2 e2=>?_);replace e2:=e1.trans e2;go_wp2
 go_ret
 exact ⟨_,rfl,e2.alloc _,zhD [(2+2 * (i:Int),p),(2+2 * (j:Int),q)] _ 2 rfl rfl (by decide) _ e2.size⟩

theorem zhB (k:Int) (hk:k=2∨k=5) (v:Value) (i o:Int) (w:World) :
  zaw Tryz.prog 150 #[v,I k,I i,I o] w fun r w'=>Has w.heap.size w' r []:=by
 unfold zaw;rcases hk with rfl | rfl
 all_goals
  go_enter Tryz.func150,Tryz.ntmps150
  go_wp2
  go_ret
  exact ⟨_,rfl,Ext.refl _,Has.nil _ _⟩

open Go.RowKit Go.Mk

theorem zsi {l:List (Int×Int)} {i:Nat} (h:i+1 < l.length):((l.set i (l.getD (l.length - 1) (0,0))).take (l.length - 1)).getD i (0,0)=l.getD (l.length - 1) (0,0):=by
 have h1:i < l.length - 1:=by omega
 have h2:i < l.length:=by omega
 simp [List.getD_eq_getElem?_getD,h1]

theorem zdI {f:FuncId} {args:Array Value} {w:World} {b:Nat} {l m:List (Int×Int)} (h:zaw Tryz.prog f args w fun r w'=>Has b w' r l) (e:l=m):zaw Tryz.prog f args w fun r w'=>Has b w' r m:=e ▸ h

def atI (l:List (Int×Int)) (a:Int):Int:=if at1 l a < l.length then (at1 l a:Int) else -1

theorem zlC (v:Value) (l:List (Int×Int)) (k a o n:Int) (w:World) (hc:wrongCl ⟨k,a,o,n⟩=0) (hl:Okw l) (he0:(zaO l ⟨k,a,o,n⟩).2.err=0) (hv:zar w v (zaO l ⟨k,a,o,n⟩).1) :
  zaw Tryz.prog 150 #[v,I k,I (atI l a),I (atI l o)] w fun r w'=>Has w.heap.size w' r (zdw l ⟨k,a,o,n⟩):=by
 have h5:=zrR (c:=⟨k,a,o,n⟩) hl.len
 have hl5:=hl.len
 obtain ⟨hk,_⟩:=zhh hc
 clear hc
 rcases hk with rfl | rfl | rfl | rfl | rfl | rfl
 ·rw [zmg] at he0 hv h5
  by_cases ha:at1 l a < l.length
  ·rw [if_pos ha] at hv h5
   rw [show atI l a=(at1 l a:Int) from if_pos ha]
   refine zdI (ziq 1 (.inl rfl) v _ (at1 l a) _ w hv (by rw [zay]; exact ha) h5) ?_
   rw [zcC _ _ _ _ ha,if_pos rfl]
   simp [zdw,ha]
  ·by_cases h6:5<=l.length
   ·rw [if_neg ha,if_pos h6] at he0
    exact absurd he0 (by simp)
   ·rw [if_neg ha,if_neg h6] at hv h5
    rw [show atI l a=-1 from if_neg ha]
    refine zdI (zmQ v _ _ w hv (by simp) h5) ?_
    simp [zdw,ha]
 ·rw [show zdw l ⟨2,a,o,n⟩=[] by simp [zdw]]
  exact zhB 2 (.inl rfl) v _ _ w
 ·rw [zhY] at he0 hv h5
  by_cases ha:at1 l a < l.length
  ·rw [if_neg (by simpa using ha)] at hv h5
   rw [show atI l a=(at1 l a:Int) from if_pos ha]
   have hlen:((l.set (at1 l a) (l.getD (l.length - 1) (0,0))).take (l.length - 1)).length=l.length - 1:=by simp
   by_cases hm:at1 l a+1 < l.length
   ·refine zdI (zlE v _ (at1 l a) _ w hv (by rw [hlen]; omega) h5) ?_
    rw [zsi hm,hlen]
    simp only [zdw,hm,if_true,if_neg (show ¬ (3:Int)=1 by decide)]
    rw [show ((l.length - 1:Nat):Int)=(l.length:Int) - 1 by omega]
   ·have:=zlV v _ (atI l o) w hv
    rw [hlen] at this
    rw [show (at1 l a:Int)=((l.length - 1:Nat):Int) by omega]
    refine zdI this ?_
    simp only [zdw,hm,if_true,if_false,if_neg (show ¬ (3:Int)=1 by decide)]
    rw [show ((l.length - 1:Nat):Int)=(l.length:Int) - 1 by omega]
  ·rw [if_pos ha] at he0
   exact absurd he0 (by simp)
 ·rw [ziL] at he0 hv h5
  by_cases ha:at1 l a < l.length
  ·rw [if_neg (by simpa using ha)] at he0 hv h5
   by_cases hr:-1073741824<=num l (at1 l a)+n/\num l (at1 l a)+n<=1073741824
   ·rw [if_neg (by simpa using hr)] at hv h5
    rw [show atI l a=(at1 l a:Int) from if_pos ha]
    refine zdI (ziq 4 (.inr rfl) v _ (at1 l a) _ w hv (by rw [zay]; exact ha) h5) ?_
    rw [zcC _ _ _ _ ha,if_pos rfl]
    simp [zdw]
   ·rw [if_pos hr] at he0
    exact absurd he0 (by simp)
  ·rw [if_pos ha] at he0
   exact absurd he0 (by simp)
 ·rw [show zdw l ⟨5,a,o,n⟩=[] by simp [zdw]]
  exact zhB 5 (.inr rfl) v _ _ w
 ·rw [zgX] at he0 hv h5
  by_cases ha:at1 l a < l.length
  ·rw [if_neg (by simpa using ha)] at he0 hv h5
   by_cases hb:at1 l o < l.length
   ·rw [if_neg (by simpa using hb)] at hv
    rw [show atI l a=(at1 l a:Int) from if_pos ha,show atI l o=(at1 l o:Int) from if_pos hb]
    have hv2:zar w v (put1 (put1 l (at1 l a) (num l (at1 l o))) (at1 l o) (num l (at1 l a))):=hv
    have hb2:at1 l o < (put1 l (at1 l a) (num l (at1 l o))).length:=by rw [zay]; exact hb
    have hlen:(put1 (put1 l (at1 l a) (num l (at1 l o))) (at1 l o) (num l (at1 l a))).length=l.length:=by rw [zay,zay]
    have p1:((put1 (put1 l (at1 l a) (num l (at1 l o))) (at1 l o) (num l (at1 l a))).getD (at1 l a) (0,0)).2=num l (at1 l o):=by
     rw [zcC _ _ _ _ hb2]
     by_cases he:at1 l o=at1 l a
     ·rw [if_pos he,he]
     ·rw [if_neg he,zcC _ _ _ _ ha,if_pos rfl]
    have p2:((put1 (put1 l (at1 l a) (num l (at1 l o))) (at1 l o) (num l (at1 l a))).getD (at1 l o) (0,0)).2=num l (at1 l a):=by
     rw [zcC _ _ _ _ hb2,if_pos rfl]
    refine zdI (zlX v _ (at1 l a) (at1 l o) w hv2 (by rw [hlen]; exact ha) (by rw [hlen]; exact hb) (by rw [hlen]; exact hl5)) ?_
    rw [p1,p2]
    simp [zdw]
   ·rw [if_pos hb] at he0
    exact absurd he0 (by simp)
  ·rw [if_pos ha] at he0
   exact absurd he0 (by simp)

open Go.RowKit Go.Mk

def zt6 (base:Nat) (l:List (Int×Int)) (c:Cl) (e:Ending) (w:World):Prop:=∃ u,e=.returned (.tuple #[u,(zaO l c).2.val])/\Has base w u (zbE l c)
theorem zuI {w:World} {o1 o2:Obj} {wx:World} {v0 v1 v2 v3:Value} (h1:o1=.cells #[v0,v1,v2,v3] 33 (0,0)) (h2:o2=.cells #[I 0,I 0] 38 (0,0)) (hx:Ext ((w.alloc o1).alloc o2) wx) :
  (wx.cell? ⟨w.heap.size,0,none⟩=some v0/\wx.cell? ⟨w.heap.size,1,none⟩=some v1/\wx.cell? ⟨w.heap.size,2,none⟩=some v2/\wx.cell? ⟨w.heap.size,3,none⟩=some v3)/\wx.heap[w.heap.size+1]?=some (.cells #[I 0,I 0] 38 (0,0)):=by
 subst h1 h2
 have p0:((w.alloc (.cells #[v0,v1,v2,v3] 33 (0,0))).alloc (.cells #[I 0,I 0] 38 (0,0))).heap[w.heap.size]?=some (.cells #[v0,v1,v2,v3] 33 (0,0)):=by
  rw [heap_alloc_old _ _ (by simp)]; exact heap_alloc_new _ _
 have p1:((w.alloc (.cells #[v0,v1,v2,v3] 33 (0,0))).alloc (.cells #[I 0,I 0] 38 (0,0))).heap[w.heap.size+1]?=some (.cells #[I 0,I 0] 38 (0,0)):=by
  have:=heap_alloc_new (w.alloc (.cells #[v0,v1,v2,v3] 33 (0,0))) (.cells #[I 0,I 0] 38 (0,0))
  simpa using this
 refine ⟨⟨hx.cell (zaS p0 rfl),hx.cell (zaS p0 rfl),hx.cell (zaS p0 rfl),hx.cell (zaS p0 rfl)⟩,?_⟩
 rw [hx.block _ (by simp)]
 exact p1

theorem zkl.low {b1 b2:Nat} {l:List (Int×Int)} {c:Cl} {r:Value} {w:World} (h:zkl b1 l c r w) (hle:b2<=b1):zkl b2 l c r w:=by
 obtain ⟨u,e,h⟩:=h
 exact ⟨u,e,h.low hle⟩

theorem zne (b:Nat) (l:List (Int×Int)) (c:Cl):∀ v,zb9 (fun w=>zkl b l c v w):=fun _ _ _ he ⟨u,e,h⟩=>⟨u,e,h.ext he⟩

def Box (base:Nat) (t:TypeId) (x y:Value) (v:Value) (w:World):Prop:=∃ b,v=.pointer (some ⟨b,0,none⟩)/\base<=b/\w.heap[b]?=some (.cells #[x,y] t (0,0))

theorem zte (base:Nat) (t:TypeId) (x y:Value):∀ v,zb9 (Box base t x y v):=fun _ _ _ he ⟨b,e,h1,h2⟩=>⟨b,e,h1,by rw [he.block b (Array.getElem?_eq_some_iff.1 h2).1]; exact h2⟩

theorem ztm {w:World} {base:Nat} {t:TypeId} {x y:Value} (h:base<=w.heap.size):Box base t x y (.pointer (some ⟨w.heap.size,0,none⟩)) (w.alloc (.cells #[x,y] t)):=⟨_,rfl,h,heap_alloc_new _ _⟩

theorem Has.box {base:Nat} {w:World} {u:Value} {l:List (Int×Int)} (h:Has base w u l) {b:Nat} {cs:Array Value} {t:TypeId} (hb:w.heap[b]?=some (.cells cs t (0,0))) (hne:(52:Nat)≠t) (i:Nat) (y:Value):Has base (w.setCell ⟨b,i,none⟩ y) u l:=by
 obtain ⟨x,m,lo,h1,h2⟩:=h
 exact ⟨x,m,lo,za1 h1 (zaH h1 hb hne) i y,h2⟩

theorem Has.box2 {base:Nat} {w:World} {u:Value} {l:List (Int×Int)} (h:Has base w u l) {b:Nat} {p q:Value} {t:TypeId} (hb:w.heap[b]?=some (.cells #[p,q] t (0,0))) (hne:(52:Nat)≠t) (x y:Value):Has base ((w.setCell ⟨b,0,none⟩ x).setCell ⟨b,1,none⟩ y) u l :=
 (h.box hb hne 0 x).box (heap_setCell_same _ _ 0 _ _ x hb) hne 1 y

theorem zk1 (v:Value) (xs:List Int) (k a o n:Int) (w:World) (hv:zc2 w v xs) (hx:zni xs) (hc:wrongCl ⟨k,a,o,n⟩=0) :
  Calls Tryz.prog 139 #[v,.agg #[I k,I a,I o,I n]] w fun e w'=>zt6 w.heap.size (zaX xs (xs.getD 0 0).toNat) ⟨k,a,o,n⟩ e w'/\Ext w w':=by
 obtain ⟨hl11,hx0,hx5,hok⟩:=id hx;have hO:=fun wx (h:Ext w wx)=>zpk v xs wx (hv.ext h) hx.c;have hF:=fun nm wx (h:Ext w wx)=>zrB v xs nm wx (hv.ext h) (by omega);have hD:=fun u wx h=>zs3 u (zaX xs (xs.getD 0 0).toNat) k a o n wx h hok hc
 have hent:(zbH xs).toNat=(zaX xs (xs.getD 0 0).toNat).length:=by
  rw [zaU]; unfold zbH; rw [if_neg (by omega)]; omega
 simp only [hent] at hF;have HFA:=zhd (znr xs a (xs.getD 0 0).toNat);have HFO:=zhd (znr xs o (xs.getD 0 0).toNat);generalize hL:zaX xs (xs.getD 0 0).toNat=l at *;have HLN:Hid (l.length=(xs.getD 0 0).toNat):=by unfold Hid; rw [<- hL,zaU]
 have HOK:Hid (Okw l):=hok;have HC:Hid (wrongCl ⟨k,a,o,n⟩=0):=hc;have HL:Hid (zaX xs (xs.getD 0 0).toNat=l):=hL;clear hv hx hl11 hx0 hx5 hok hc hL hent;have e0:Ext w ((w.alloc (.cells #[I k,I a,I o,I n] 33)).alloc (.cells #[I 0,I 0] 38)):=((Ext.refl w).alloc _).alloc _
 have HB:Hid (∀ wx,Ext ((w.alloc (.cells #[I k,I a,I o,I n] 33)).alloc (.cells #[I 0,I 0] 38)) wx->(wx.cell? ⟨w.heap.size,0,none⟩=some (I k)/\wx.cell? ⟨w.heap.size,1,none⟩=some (I a)/\wx.cell? ⟨w.heap.size,2,none⟩=some (I o)/\wx.cell? ⟨w.heap.size,3,none⟩=some (I n)) /\
   wx.heap[w.heap.size+1]?=some (.cells #[I 0,I 0] 38 (0,0))):=fun wx hx=>zuI rfl rfl hx
 generalize hw0:(w.alloc (.cells #[I k,I a,I o,I n] 33)).alloc (.cells #[I 0,I 0] 38)=w0 at *;have HW0:=zhd hw0;have HSZ:Hid (w0.heap.size=w.heap.size+2):=by unfold Hid; rw [<- hw0]; simp
 go_enter Tryz.func139,Tryz.ntmps139
 go_wp2_with fail
 clear hw0;obtain ⟨⟨c0,c1,c2,c3⟩,-⟩:=HB.o w0 (Ext.refl _);refine zap 9 [none,some (.inr fun v w=>zar w v l),none,some (.inr fun r wx=>zkl w0.heap.size l ⟨k,a,o,n⟩ r wx),some (.inr fun r wx=>zkl w0.heap.size l ⟨k,a,o,n⟩ r wx),some (.inr fun u wx=>Has w0.heap.size wx u (zaO l ⟨k,a,o,n⟩).1),some (.inl (zaO l ⟨k,a,o,n⟩).2.val),some (.inr (Box w0.heap.size 38 (I 0) (I 0))),none] (by kernel_rfl) (by kernel_rfl) ?_ ?_
 ·exact ⟨trivial,zgT _,trivial,zne _ _ _,zne _ _ _,zpn _ _,trivial,zte _ _ _ _,trivial,trivial⟩
 (refine zat (fun K hK=>?_); go_simp; refine hK _ ?_; clear hK K)
 refine zbq _ rfl (fun w' hw' _=>?_) (fun v10=>?_)
 ·have hg:=hO w' (e0.trans hw');unfold za0;go_simp
  exact ⟨Ext.refl _,hg⟩
 refine zaK (.agg #[I k,I a,I o,I n]) rfl (fun w' hw'=>by have q0:=hw'.cell c0; have q1:=hw'.cell c1; have q2:=hw'.cell c2; have q3:=hw'.cell c3; go_simp) ?_;refine zbq _ rfl (fun w' hw' hk=>?_) (fun v12=>?_)
 ·have h7:zar w' v10 l:=hk 10 (by decide);have hg:=Calls.mono (hD v10 w' h7) (fun e w'' ⟨r,he,hx,hd⟩=>(⟨r,he,hx,hd.low hw'.size⟩:∃ r,e=Ending.returned r/\Ext w' w''/\zkl w0.heap.size l ⟨k,a,o,n⟩ r w''));clear hk h7;unfold za0;go_simp
  exact ⟨Ext.refl _,hg⟩
 refine zbq _ rfl (fun w' hw' hk=>?_) (fun v8=>?_)
 ·have h7:zkl w0.heap.size l ⟨k,a,o,n⟩ v12 w':=hk 12 (by decide);clear hk;unfold za0;go_simp
  exact ⟨Ext.refl _,h7⟩
 refine zbq _ rfl (fun w' hw' hk=>?_) (fun v13=>?_)
 ·obtain ⟨u,rfl,h7⟩:zkl w0.heap.size l ⟨k,a,o,n⟩ v8 w':=hk 8 (by decide);clear hk;unfold za0;go_simp
  exact ⟨Ext.refl _,h7⟩
 refine zho _ rfl (fun w' hw' hk=>?_) ?_
 ·obtain ⟨u,rfl,h7⟩:zkl w0.heap.size l ⟨k,a,o,n⟩ v8 w':=hk 8 (by decide);clear hk;unfold za0;go_simp
  exact ⟨Ext.refl _,rfl⟩
 refine zbq _ rfl (fun w' hw' hk=>?_) (fun v7=>?_)
 ·clear hk;unfold za0;go_simp
  exact ⟨(Ext.refl _).alloc _,ztm hw'.size⟩
 (refine zat (fun K hK=>?_); go_simp; refine hK _ ?_; clear hK K)
 refine za5 ?_;intro w1 e1 hX;have hh:Has w0.heap.size w1 v13 (zaO l ⟨k,a,o,n⟩).1:=hX 13;obtain ⟨b,rfl,hb0,hb1⟩:Box w0.heap.size 38 (I 0) (I 0) v7 w1:=hX 7;clear hX c0 c1 c2 c3;obtain ⟨hbx1,hbx2⟩:=HB.o w1 e1;have hbs:w.heap.size+1 < w0.heap.size:=by have:=HSZ.o; omega
 have hdl:(zaO l ⟨k,a,o,n⟩).1.length<=5:=zrR HOK.o.len;have hdn:(zaO l ⟨k,a,o,n⟩).2.err≠0->zbE l ⟨k,a,o,n⟩=[]:=fun h=>if_pos h;have hdz:(zaO l ⟨k,a,o,n⟩).2.err=0->zbE l ⟨k,a,o,n⟩=zdw l ⟨k,a,o,n⟩:=fun h=>if_neg (by simp [h]);generalize hDD:zaO l ⟨k,a,o,n⟩=D at *;have HD:=zhd hDD;clear hDD;obtain ⟨D1,D2,D3⟩:=D;simp only [] at hh hdl hdn hdz;obtain ⟨x0,x1,f0,f1⟩:=zbV hb1 (Ext.refl _)
 have HP:Hid (∀ wx u,Ext w w1->D2=0->zar wx u D1->zaw Tryz.prog 150 #[u,I k,I (atI l a),I (atI l o)] wx fun r w'=>Has wx.heap.size w' r (zdw l ⟨k,a,o,n⟩)):=fun wx u _ hz hu=>by
  have hz2:(zaO l ⟨k,a,o,n⟩).2.err=0:=by rw [HD.o]; exact hz
  exact zlC u l k a o n wx HC.o HOK.o hz2 (by rw [HD.o]; exact hu)
 have hFa:=fun wx h=>hF a wx h;have hFo:=fun wx h=>hF o wx h;rw [HLN.o,HFA.o,<- HLN.o] at hFa;rw [HLN.o,HFO.o,<- HLN.o] at hFo;have e2:Ext w0 ((w1.setCell ⟨b,0,none⟩ (I D2)).setCell ⟨b,1,none⟩ (I D3)):=(e1.setCell hb0 _).setCell hb0 _;have hh2:=hh.box2 hb1 (by decide) (I D2) (I D3);have hb2:=zmk hb1 (I D2) (I D3);have hww:Ext w w1:=e0.trans e1;clear hbx1 hbx2 hh hb1 hO hD hF hdl e1;by_cases hz:D2=0
 case neg =>
  have hbz:(D2 != 0)=true:=by simpa using hz
  have hpl:=hdn hz;clear hdn hdz hz hFa hFo HP;go_wp2_with fail
  clear x0 x1 f0 f1;generalize hw2:(w1.setCell ⟨b,0,none⟩ (I D2)).setCell ⟨b,1,none⟩ (I D3)=w2 at *;clear hw2;obtain ⟨-,rb⟩:=HB.o w2 e2;obtain ⟨y0,y1,g0,g1⟩:=zbV hb2 (Ext.refl _);refine zap 2 [none,none] (by kernel_rfl) (by kernel_rfl) ?_ ?_
  ·exact ⟨trivial,trivial,trivial⟩
  refine zaK (.agg #[I D2,I D3]) rfl (fun w' hw'=>by have q0:=hw'.cell y0; have q1:=hw'.cell y1; go_simp) ?_;(refine zat (fun K hK=>?_); go_simp; refine hK _ ?_; clear hK K)
  refine za5 ?_;intro w4 he4 _;clear y0 y1 g0 g1;have rb4:w4.heap[w.heap.size+1]?=some (.cells #[I 0,I 0] 38 (0,0)):=(HB.o w4 (e2.trans he4)).2;obtain ⟨x0,x1,f0,f1⟩:=zbV rb4 (Ext.refl _);go_wp2
  obtain ⟨z0,z1,-,-⟩:=zbV (zmk rb4 (I D2) (I D3)) (Ext.refl _);clear x0 x1 f0 f1;refine bodyPost_ret (by simp [results,Tryz.results139,go_sem,z0,z1]; rfl) rfl ?_;refine ⟨⟨_,by rw [HD.o],by rw [hpl]; exact Has.nil _ _⟩,((e0.trans (e2.trans he4)).setCell (by simp only []; omega) _).setCell (by simp only []; omega) _⟩
 subst hz;have hpl:=hdz rfl;clear hdn hdz;go_wp2_with fail
 clear x0 x1 f0 f1;generalize hw2:(w1.setCell ⟨b,0,none⟩ (I 0)).setCell ⟨b,1,none⟩ (I D3)=w2 at *;clear hw2;obtain ⟨⟨c0,c1,c2,c3⟩,-⟩:=HB.o w2 e2;obtain ⟨y0,y1,g0,g1⟩:=zbV hb2 (Ext.refl _);have ha:(if at1 l a < l.length then (at1 l a:Int) else -1)=atI l a:=rfl;have ho:(if at1 l o < l.length then (at1 l o:Int) else -1)=atI l o:=rfl;rw [ha] at hFa;rw [ho] at hFo;clear ha ho;generalize atI l a=fa at *;generalize atI l o=fo at *;refine zap 14 [none,none,none,none,none,none,some (.inl (I fa)),none,none,none,some (.inl (I fo)),some (.inr fun r wx=>Has w0.heap.size wx r (zdw l ⟨k,a,o,n⟩)),none,none] (by kernel_rfl) (by kernel_rfl) ?_ ?_
 ·exact ⟨trivial,trivial,trivial,trivial,trivial,trivial,trivial,trivial,trivial,trivial,trivial,zpn _ _,trivial,trivial,trivial⟩
 iterate 2 (refine zat (fun K hK=>?_); go_simp; refine hK _ ?_; clear hK K)
 refine zaK (I k) rfl (fun w' hw'=>by have q0:=hw'.cell c0; go_simp) ?_;iterate 2 (refine zat (fun K hK=>?_); go_simp; refine hK _ ?_; clear hK K)
 refine zaK (I a) rfl (fun w' hw'=>by have q0:=hw'.cell c1; go_simp) ?_;refine zho _ rfl (fun w' hw' _=>?_) ?_
 ·have hg:=zdG (hFa w' (e0.trans (e2.trans hw')));unfold za0;go_simp
  exact ⟨Ext.refl _,hg⟩
 iterate 2 (refine zat (fun K hK=>?_); go_simp; refine hK _ ?_; clear hK K)
 refine zaK (I o) rfl (fun w' hw'=>by have q0:=hw'.cell c2; go_simp) ?_;refine zho _ rfl (fun w' hw' _=>?_) ?_
 ·have hg:=zdG (hFo w' (e0.trans (e2.trans hw')));unfold za0;go_simp
  exact ⟨Ext.refl _,hg⟩
 refine zbq _ rfl (fun w' hw' _=>?_) (fun v30=>?_)
 ·have hg:=(HP.o w' v13 hww trivial (hh2.writes.ext hw')).mono (fun r wx _ hr=>Has.low hr (Nat.le_trans e2.size hw'.size));unfold za0;go_simp
  exact ⟨Ext.refl _,hg⟩
 refine zaK (.agg #[I 0,I D3]) rfl (fun w' hw'=>by have q0:=hw'.cell y0; have q1:=hw'.cell y1; go_simp) ?_;(refine zat (fun K hK=>?_); go_simp; refine hK _ ?_; clear hK K)
 refine za5 ?_;intro w4 he4 hX;have hr:Has w0.heap.size w4 v30 (zdw l ⟨k,a,o,n⟩):=hX 30;clear y0 y1 g0 g1 c0 c1 c2 c3 hX HP;have rb4:w4.heap[w.heap.size+1]?=some (.cells #[I 0,I 0] 38 (0,0)):=(HB.o w4 (e2.trans he4)).2;obtain ⟨x0,x1,f0,f1⟩:=zbV rb4 (Ext.refl _);go_wp2
 obtain ⟨z0,z1,-,-⟩:=zbV (zmk rb4 (I 0) (I D3)) (Ext.refl _);clear x0 x1 f0 f1;refine bodyPost_ret (by simp [results,Tryz.results139,go_sem,z0,z1]; rfl) rfl ?_;refine ⟨⟨_,by rw [HD.o],by rw [hpl]; exact (hr.box2 rb4 (by decide) _ _).low (by have:=HSZ.o; omega)⟩,((e0.trans (e2.trans he4)).setCell (by simp only []; omega) _).setCell (by simp only []; omega) _⟩

end Go.Proofs.YtdmipnnfoolelagGreatDoor

/- Texts of the proof, merged: N16 N17 S5 V5b. -/
import Derived.Test.YtdmipnnfooleladGreatKQ
import Derived.Test.YtdmipnnfooleladGreatKD
import Derived.Test.YtdmipnnfooleladGreatKC
import Derived.Test.YtdmipnnfooleladGreatKF
import Derived.Test.YtdmipnnfooleladGreatKE
import Derived.Test.YtdmipnnfooleladGreatKO

namespace Go.Proofs.YtdmipnnfooleladGreat
open Go.RowKit Go.Mk
set_option maxRecDepth 100000

/-- The cells of new clients. -/
def newCsOf (cvs : List Value) : List (List Value):=cvs.map fun cv=>[cv,I 0,.bool false,I 0,.slice none 0 0,.slice none 0 0]
theorem own_ne_gtN {g n cap b : Nat} (h : g < b) : (Value.slice (some ⟨g,0,none⟩) n cap).ownBlock ≠ some b:=fun e=>by
 have q : g = b:=by simpa [Value.ownBlock] using e
 omega
theorem keep_blk {w w' : World} {row : Option Nat} (hg : w.grownBy w' row) {b : Nat} {o : Obj} (h : w.heap[b]? = some o) (hne : row ≠ some b) : w'.heap[b]? = some o:=by
 rw [hg.block b (Array.getElem?_eq_some_iff.1 h).1 (fun e=>hne e.symm)]
 exact h
theorem newCs_snoc (cvs : List Value) (k : Nat) (cv : Value) (h : cvs[k]? = some cv) : (newCsOf (cvs.take (k + 1))).flatten = (newCsOf (cvs.take k)).flatten ++ [cv,I 0,.bool false,I 0,.slice none 0 0,.slice none 0 0]:=by
 rw [List.take_add_one,h]
 simp [newCsOf]

/-- The cells of no machine. -/
def zeroMcs : List Value:=[.slice none 0 0,.slice none 0 0,.slice none 0 0,.slice none 0 0,I 0,.slice none 0 0,.bool false,I 0,I 0,I 0,I 0,I 0,I 0,.slice none 0 0,I 0,I 0,.bool false,I 0,I 0,.slice none 0 0]
def NewT (l : List (List Cl)) (r : Value) (w : World) : Prop:=∃ (cs : List Value) (e : Int),r = .tuple #[.agg cs.toArray,I e] ∧ ((e = 0 ∧ rightL l ∧ elMc w cs (newMc l)) ∨ (cs = zeroMcs ∧ e ≠ 0 ∧ ¬ rightL l))

theorem each_new {w : World} {l : List (List Cl)} {cvs : List Value} (hl : cvs.length = l.length) (h : ∀ (k : Nat) (x : List Cl) (cv : Value),l[k]? = some x → cvs[k]? = some cv → RowOf 4 elCl w cv x) : Each 6 elCn w (newCsOf cvs) (l.map newCn):=by
 refine ⟨by simp [newCsOf,hl],fun i c x hc hx=>?_⟩
 unfold newCsOf at hc
 rw [List.getElem?_map] at hc hx
 cases h1 : cvs[i]? with
 | none=>rw [h1] at hc; cases hc
 | some cv =>
  cases h2 : l[i]? with
  | none=>rw [h2] at hx; cases hx
  | some y =>
   rw [h1] at hc
   rw [h2] at hx
   simp at hc hx
   subst hc hx
   exact ⟨rfl,(cn_iff (c:=newCn y)).2 ⟨h i y cv h2 h1,RowOf.nil w,RowOf.nil w⟩⟩
theorem not_long {l : List (List Cl)} (h : 3 < l.length) : ¬ rightL l:=fun hr=>by have:=hr.1; omega
theorem not_much {l : List (List Cl)} {k : Nat} {x : List Cl} (hx : l[k]? = some x) (h : 8 < x.length) : ¬ rightL l:=fun hr=>by have:=(hr.2 x (List.mem_of_getElem? hx)).1; omega
theorem not_call {l : List (List Cl)} {k q : Nat} {x : List Cl} {y : Cl} (hx : l[k]? = some x) (hy : x[q]? = some y) (h : wrongCl y ≠ 0) : ¬ rightL l:=fun hr=>h ((hr.2 x (List.mem_of_getElem? hx)).2 y (List.mem_of_getElem? hy))
def okL (l : List (List Cl)) (k : Nat) : Prop:=∀ (j : Nat) (x : List Cl),j < k → l[j]? = some x → x.length ≤ 8 ∧ ∀ y ∈ x,wrongCl y = 0

theorem calls_form {w : World} {v : Value} {l : List (List Cl)} {css : List (List Value)} (he : Each 1 elCls w css l) (hr : Row w 1 v l.length css.flatten) : ∃ ao cap,v = .slice ao l.length cap ∧ l.length ≤ cap ∧ cap ≤ maxLen ∧ css.flatten.length = l.length ∧
  ∀ k x,l[k]? = some x → ∃ b off cv,ao = some ⟨b,off,none⟩ ∧ css.flatten[k]? = some cv ∧ w.cell? ⟨b,off + k,none⟩ = some cv ∧ RowOf 4 elCl w cv x:=by
 obtain ⟨hl,ao,cap,e,h3,h4,h0,h5⟩:=hr
 refine ⟨ao,cap,e,h3,h4,by simpa using hl,fun k x hx=>?_⟩
 have hk : k < css.length:=by rw [he.1]; exact (List.getElem?_eq_some_iff.1 hx).1
 have hc : css[k]? = some css[k]:=List.getElem?_eq_getElem hk
 obtain ⟨h6,cv,h7,h8⟩:=he.2 k _ x hc hx
 have h9:=flatten_get (by decide) he.sizes hc (j:=0) (u:=cv) (by rw [h7]; rfl)
 rw [Nat.mul_one,Nat.add_zero] at h9
 obtain ⟨b,off,e1,hcell⟩:=h5 k cv h9
 exact ⟨b,off,cv,e1,h9,hcell,h8⟩

set_option maxHeartbeats 4000000 in
theorem refNew_keeps (v : Value) (l : List (List Cl)) (w : World) (A : Nat → Prop) (hv : Rd A (fun w=>RowOf 1 elCls w v l) w) :
  Keeps Tryz.prog 23 #[v] w A (NewT l):=by
 unfold Keeps
 obtain ⟨css,hcss⟩:=rd_rowOf2 (by decide) hv
 obtain ⟨va,vcap,rfl,v1,v2,hcl,v3⟩:=calls_form hcss.out.1 hcss.out.2
 unfold maxLen at v2
 have HE:=Lib.hid hcss.left
 have V3:=Lib.hid v3
 have HCL:=Lib.hid hcl
 generalize hcvs : css.flatten = cvs at *
 have HCV:=Lib.hid hcvs
 clear v3 hcl hv hcss hcvs
 have EW:=Lib.hid (Ext.refl w)
 by_cases h3 : 3 < l.length
 case pos =>
  have h3i : (3 : Int) < (l.length : Int):=by omega
  have HN:=Lib.hid (not_long h3)
  clear h3
  go_enter Tryz.func23,Tryz.ntmps23
  go_wp2_with ((with_reducible refine zst (L:=[44,41,31,100]) ?_ ?_); exact rfl)
  unfold Hid
  refine wpList_allocB rfl 44 #[.slice none 0 0,.slice none 0 0,.slice none 0 0,.slice none 0 0,I 0,.slice none 0 0,.bool false,I 0,I 0,I 0,I 0,I 0,I 0,.slice none 0 0,I 0,I 0,.bool false,I 0,I 0,.slice none 0 0] (by kernel_rfl) (fun b0 w1_ M1=>?_)
  have B_b0:=zmb M1
  replace EW:=zet EW M1
  have O_b0 : Hid (w.heap.size ≤ b0):=by unfold Hid; have q:=M1.out.at_; omega
  go_wp2_with ((with_reducible refine zst (L:=[44,41,31,100]) ?_ ?_); exact rfl)
  unfold Hid
  refine wpList_buildB rfl 44 #[] rfl #[.slice none 0 0,.slice none 0 0,.slice none 0 0,.slice none 0 0,I 0,.slice none 0 0,.bool false,I 0,I 0,I 0,I 0,I 0,I 0,.slice none 0 0,I 0,I 0,.bool false,I 0,I 0,.slice none 0 0] (by kernel_rfl) (fun v13 H_v13=>?_)
  go_wp2_with ((with_reducible refine zst (L:=[44,41,31,100]) ?_ ?_); exact rfl)
  unfold Hid
  refine wpList_storeW rfl 44 (.tmp 2) (.tmp 13) rfl b0 rfl _ (zcv H_v13) B_b0 rfl (by kernel_rfl) rfl (fun w2_ M2=>?_)
  replace B_b0:=zwb M2
  replace EW:=zwe M2 EW O_b0
  go_wp2
  have z0:=run_box (P:=Tryz.prog) 44 B_b0.out Tryz.underlying44 (by kernel_rfl)
  refine bodyPost_ret (by simp [results,Tryz.results23,asAddr,z0]; rfl) rfl ?_
  exact ⟨_,rfl,EW.out,Rd.all fun w=>⟨_,_,rfl,.inr ⟨rfl,by decide,HN.out⟩⟩⟩
 have h3i : ¬ ((3 : Int) < (l.length : Int)):=by omega
 have H3:=Lib.hid h3
 clear h3
 obtain ⟨i0,hi,hz0,hz1,hz2⟩:=info_parts Tryz.infoInt
 have HI:=Lib.hid hi
 clear hi
 obtain ⟨j0,hj,hy0,hy1,hy2⟩:=info_parts Tryz.infoClient
 have HJ:=Lib.hid hj
 clear hj
 go_enter Tryz.func23,Tryz.ntmps23
 go_wp2_with ((with_reducible refine zst (L:=[44,41,31,100]) ?_ ?_); exact rfl)
 unfold Hid
 refine wpList_allocB rfl 44 #[.slice none 0 0,.slice none 0 0,.slice none 0 0,.slice none 0 0,I 0,.slice none 0 0,.bool false,I 0,I 0,I 0,I 0,I 0,I 0,.slice none 0 0,I 0,I 0,.bool false,I 0,I 0,.slice none 0 0] (by kernel_rfl) (fun b0 w1_ M1=>?_)
 have B_b0:=zmb M1
 replace EW:=zet EW M1
 have O_b0 : Hid (w.heap.size ≤ b0):=by unfold Hid; have q:=M1.out.at_; omega
 go_wp2_with (first | (at_make; refine stop_at ?_) | ((with_reducible refine zst (L:=[44,41,31,100]) ?_ ?_); exact rfl))
 unfold Hid
 refine wpList_make_full _ rfl _ _ 26 rfl w1_.heap.size 3 i0 (.int .i64 0) 1 Tryz.underlying26 HI.out hz0 hz1 .i64 .i64 _ _ 11 rfl rfl rfl rfl (by rw [hz2]; decide) (by decide) (Nat.le_refl _) ?_
 intro w2 ho hg
 have hmc : (madeCells (Value.int .i64 0).cells (11 * 1)).toList = (List.replicate 11 (0 : Int)).map I:=by kernel_rfl
 rw [hmc] at ho
 clear hmc
 have e2 : Ext w1_ w2:=(Ext.refl _).grown hg (fun k hk=>by cases hk)
 clear hg
 have D_b0_bc : Hid (b0 < w1_.heap.size):=(Array.getElem?_eq_some_iff.1 B_b0.out).1
 have O_bc : Hid (w.heap.size ≤ w1_.heap.size):=EW.out.size
 generalize w1_.heap.size = bc at *
 have OC:=Lib.hid ho
 clear ho
 replace B_b0:=zbx B_b0 e2
 replace EW:=Lib.hid (EW.out.trans e2)
 clear e2
 go_wp2_with ((with_reducible refine zst (L:=[44,41,31,100]) ?_ ?_); exact rfl)
 unfold Hid
 refine wpList_buildB rfl 31 #[(0,.tmp 14)] rfl #[.slice (some ⟨bc,0,none⟩) 11 11,.slice none 0 0,.slice none 0 0,.slice none 0 0] (by kernel_rfl) (fun v15 H_v15=>?_)
 have hv15:=H_v15.out
 subst hv15
 clear H_v15
 go_wp2_with ((with_reducible refine zst (L:=[44,41,31,100]) ?_ ?_); exact rfl)
 unfold Hid
 refine wpList_buildB rfl 44 #[(0,.tmp 15),(2,.const (.bool true))] rfl #[.slice (some ⟨bc,0,none⟩) 11 11,.slice none 0 0,.slice none 0 0,.slice none 0 0,I 0,.slice none 0 0,.bool false,I 0,I 0,I 0,I 0,I 0,I 0,.slice none 0 0,I 0,I 0,.bool true,I 0,I 0,.slice none 0 0] (by kernel_rfl) (fun v16 H_v16=>?_)
 go_wp2_with ((with_reducible refine zst (L:=[44,41,31,100]) ?_ ?_); exact rfl)
 unfold Hid
 refine wpList_allocB rfl 44 #[.slice none 0 0,.slice none 0 0,.slice none 0 0,.slice none 0 0,I 0,.slice none 0 0,.bool false,I 0,I 0,I 0,I 0,I 0,I 0,.slice none 0 0,I 0,I 0,.bool false,I 0,I 0,.slice none 0 0] (by kernel_rfl) (fun b1 w2_ M2=>?_)
 have D_b0_b1:=zld B_b0 M2
 replace B_b0:=zmo M2 B_b0
 have B_b1:=zmb M2
 replace EW:=zet EW M2
 have D_bc_b1 : Hid (bc < b1):=by unfold Hid; have q:=(OC.out.lt bc rfl).2; have q2:=M2.out.at_; omega
 have O_b1 : Hid (w.heap.size ≤ b1):=by unfold Hid; have q:=O_b0.out; have q2:=D_b0_b1.out; omega
 replace OC:=Lib.hid (owns_ext OC.out M2.out.ext)
 have SZ : Hid (b1 < w2_.heap.size):=(Array.getElem?_eq_some_iff.1 B_b1.out).1
 go_wp2_with ((with_reducible refine zst (L:=[44,41,31,100]) ?_ ?_); exact rfl)
 unfold Hid
 refine wpList_storeW rfl 44 (.tmp 4) (.tmp 16) rfl b1 rfl _ (zcv H_v16) B_b1 rfl (by kernel_rfl) rfl (fun w3_ M3=>?_)
 replace B_b0:=zwl M3 B_b0 D_b0_b1
 replace B_b1:=zwb M3
 replace OC:=Lib.hid (M3.out.owns OC.out (own_ne_gtN D_bc_b1.out))
 replace EW:=zwe M3 EW O_b1
 replace SZ : Hid (b1 < w3_.heap.size):=(Array.getElem?_eq_some_iff.1 B_b1.out).1
 go_wp2_with fail
 go_loopw [19] (fun i wr=>∃ (k : Nat) (clv : Value),k ≤ l.length ∧ i = I k ∧ okL l k ∧ wr.heap[b0]? = some (.cells #[.slice none 0 0,.slice none 0 0,.slice none 0 0,.slice none 0 0,I 0,.slice none 0 0,.bool false,I 0,I 0,I 0,I 0,I 0,I 0,.slice none 0 0,I 0,I 0,.bool false,I 0,I 0,.slice none 0 0] 44 (0,0)) ∧ wr.heap[b1]? = some (.cells #[.slice (some ⟨bc,0,none⟩) 11 11,.slice none 0 0,.slice none 0 0,.slice none 0 0,I 0,.slice none 0 0,.bool false,I 0,I 0,I 0,I 0,I 0,I 0,.slice none 0 0,I 0,I 0,.bool true,I 0,I 0,clv] 44 (0,0)) ∧ wr.ownsRow bc 3 1 (.slice (some ⟨bc,0,none⟩) 11 11) 11 ((List.replicate 11 (0 : Int)).map I) ∧ wr.ownsRow (b1 + 1) 100 6 clv k (newCsOf (cvs.take k)).flatten ∧ Ext w wr) (fun i _=>l.length - (intOf i).toNat)
 case atStart=>exact ⟨0,_,Nat.zero_le _,rfl,fun j x hj=>by omega,B_b0.out,B_b1.out,OC.out,World.ownsRow_nil _ _ _ _,EW.out⟩
 case round =>
  obtain ⟨k,clv,hk,rfl,hok,hb0,hb1,hoc,hocl,hex⟩:=hrel
  clear B_b0 B_b1 OC EW SZ
  have B_b0:=Lib.hid hb0
  have B_b1:=Lib.hid hb1
  have OC:=Lib.hid hoc
  have OCL:=Lib.hid hocl
  have EW:=Lib.hid hex
  have HOK:=Lib.hid hok
  obtain ⟨la,lcap,rfl⟩:=own_slice' hocl
  clear hb0 hb1 hoc hocl hex hok
  by_cases hlt : k < l.length
  ·obtain ⟨x,hx⟩ : ∃ x,l[k]? = some x:=⟨l[k],List.getElem?_eq_getElem hlt⟩
   obtain ⟨vb,vo,cv,rfl,hcv,hcell,hrow⟩:=V3.out k x hx
   have hcw:=EW.out.cell hcell
   obtain ⟨xa,xcap,rfl⟩:=rowOf_slice hrow
   have HXF:=Lib.hid (hrow.ext monoCl EW.out)
   have HX:=Lib.hid hx
   have HCVK:=Lib.hid hcv
   clear hx hcv hcell hrow
   by_cases h8 : 8 < x.length
   ·have h8i : (8 : Int) < (x.length : Int):=by omega
    have HN:=Lib.hid (not_much HX.out h8)
    clear h8
    go_wp2_with ((with_reducible refine zst (L:=[44,41,31,100]) ?_ ?_); exact rfl)
    unfold Hid
    clear hcw
    refine wpList_buildB rfl 44 #[] rfl #[.slice none 0 0,.slice none 0 0,.slice none 0 0,.slice none 0 0,I 0,.slice none 0 0,.bool false,I 0,I 0,I 0,I 0,I 0,I 0,.slice none 0 0,I 0,I 0,.bool false,I 0,I 0,.slice none 0 0] (by kernel_rfl) (fun v26 H_v26=>?_)
    go_wp2_with ((with_reducible refine zst (L:=[44,41,31,100]) ?_ ?_); exact rfl)
    unfold Hid
    refine wpList_storeW rfl 44 (.tmp 2) (.tmp 26) rfl b0 rfl _ (zcv H_v26) B_b0 rfl (by kernel_rfl) rfl (fun w41_ M41=>?_)
    replace B_b0:=zwb M41
    replace B_b1:=zwg M41 B_b1 D_b0_b1
    replace EW:=zwe M41 EW O_b0
    go_wp2
    have z0:=run_box (P:=Tryz.prog) 44 B_b0.out Tryz.underlying44 (by kernel_rfl)
    refine bodyPost_ret (by simp [results,Tryz.results23,asAddr,z0]; rfl) rfl ?_
    exact ⟨_,rfl,EW.out,Rd.all fun w=>⟨_,_,rfl,.inr ⟨rfl,by decide,HN.out⟩⟩⟩
   ·have h8i : ¬ ((8 : Int) < (x.length : Int)):=by omega
    have H8:=Lib.hid h8
    clear h8
    go_wp2_with fail
    clear hcw h8i
    go_loopw [29] (fun i wi=>∃ q : Nat,q ≤ x.length ∧ i = I q ∧ (∀ (j : Nat) (y : Cl),j < q → x[j]? = some y → wrongCl y = 0) ∧ Ext wr wi) (fun i _=>x.length - (intOf i).toNat)
    case atStart=>exact ⟨0,Nat.zero_le _,rfl,fun j y hj=>by omega,Ext.refl _⟩
    case round =>
     obtain ⟨q,hq,rfl,hall,hei⟩:=hrel
     have HALL:=Lib.hid hall
     have HEI:=Lib.hid hei
     clear hall hei
     by_cases hql : q < x.length
     ·obtain ⟨y,hy⟩ : ∃ y,x[q]? = some y:=⟨x[q],List.getElem?_eq_getElem hql⟩
      obtain ⟨_,_,e1,_,hxm,_,hf⟩:=HXF.out.form (by decide)
      simp only [Value.slice.injEq,true_and] at e1
      obtain ⟨rfl,rfl⟩:=e1
      obtain ⟨yk,ya,yo,yn⟩:=y
      obtain ⟨yb,yf,c4,rfl,-,hc4,hcell⟩:=hf q _ hy
      have hc4 : c4 = [I yk,I ya,I yo,I yn]:=hc4
      subst hc4
      have HY:=Lib.hid hy
      have y0:=HEI.out.cell (hcell 0 _ rfl)
      have y1:=HEI.out.cell (hcell 1 _ rfl)
      have y2:=HEI.out.cell (hcell 2 _ rfl)
      have y3:=HEI.out.cell (hcell 3 _ rfl)
      simp only [Nat.add_zero,← Nat.add_assoc] at y0 y1 y2 y3
      clear hf hcell hy
      unfold maxLen at hxm
      go_wp2_with fail
      clear y0 y1 y2 y3
      refine Calls.exts (refWrongCall_any yk ya yo yn _) (fun wj ej=>?_)
      replace ej:=((Ext.refl _).alloc _).trans ej
      by_cases hw : wrongCl ⟨yk,ya,yo,yn⟩ = 0
      ·rw [hw]
       have HW:=Lib.hid hw
       clear hw
       go_wp2
       go_roundw
       case rel =>
        refine ⟨q + 1,by omega,by go_num,fun j y hj hy=>?_,HEI.out.trans ej⟩
        by_cases hjq : j = q
        ·subst hjq
         have hy2 : x[j]? = some y:=hy
         rw [HY.out] at hy2
         cases hy2
         exact HW.out
        ·exact HALL.out j y (by omega) hy
       case measure=>simp [intOf]; omega
      ·have hb : (wrongCl ⟨yk,ya,yo,yn⟩ != 0) = true:=by simpa using hw
       have HN:=Lib.hid (not_call HX.out HY.out hw)
       have HW:=Lib.hid hw
       generalize wrongCl ⟨yk,ya,yo,yn⟩ = WC at *
       clear hw
       have eji:=HEI.out.trans ej
       replace B_b0:=zbx B_b0 eji
       replace B_b1:=zbx B_b1 eji
       replace EW:=Lib.hid (EW.out.trans eji)
       clear eji ej
       go_wp2_with ((with_reducible refine zst (L:=[44,41,31,100]) ?_ ?_); exact rfl)
       unfold Hid
       refine wpList_buildB rfl 44 #[] rfl #[.slice none 0 0,.slice none 0 0,.slice none 0 0,.slice none 0 0,I 0,.slice none 0 0,.bool false,I 0,I 0,I 0,I 0,I 0,I 0,.slice none 0 0,I 0,I 0,.bool false,I 0,I 0,.slice none 0 0] (by kernel_rfl) (fun v37 H_v37=>?_)
       go_wp2_with ((with_reducible refine zst (L:=[44,41,31,100]) ?_ ?_); exact rfl)
       unfold Hid
       refine wpList_storeW rfl 44 (.tmp 2) (.tmp 37) rfl b0 rfl _ (zcv H_v37) B_b0 rfl (by kernel_rfl) rfl (fun w41_ M41=>?_)
       replace B_b0:=zwb M41
       replace B_b1:=zwg M41 B_b1 D_b0_b1
       replace EW:=zwe M41 EW O_b0
       go_wp2
       have z0:=run_box (P:=Tryz.prog) 44 B_b0.out Tryz.underlying44 (by kernel_rfl)
       refine bodyPost_ret (by simp [results,Tryz.results23,asAddr,z0]; rfl) rfl ?_
       exact ⟨_,rfl,EW.out,Rd.all fun w=>⟨_,_,rfl,.inr ⟨rfl,HW.out,HN.out⟩⟩⟩
     ·have hqx : q = x.length:=by omega
      subst hqx
      clear hql hq
      have hei:=HEI.out
      replace B_b0:=zbx B_b0 hei
      replace B_b1:=zbx B_b1 hei
      replace OC:=Lib.hid (owns_ext OC.out hei)
      replace OCL:=Lib.hid (owns_ext OCL.out hei)
      replace EW:=Lib.hid (EW.out.trans hei)
      clear hei
      have c19:=cell_of (i:=19) B_b1.out rfl
      go_wp2_with ((with_reducible refine zst (L:=[44,41,31,100]) ?_ ?_); exact rfl)
      unfold Hid
      clear c19
      refine wpList_buildB rfl 100 #[(0,.tmp 42)] rfl #[.slice xa x.length xcap,I 0,.bool false,I 0,.slice none 0 0,.slice none 0 0] (by kernel_rfl) (fun v43 H_v43=>?_)
      have hv43:=H_v43.out
      subst hv43
      clear H_v43
      go_wp2_with ((with_reducible refine zst (L:=[44,41,31,100]) ?_ ?_); exact rfl)
      unfold Hid
      refine wpList_litB rfl 100 1 #[.slice xa x.length xcap,I 0,.bool false,I 0,.slice none 0 0,.slice none 0 0] (by kernel_rfl) (fun bl w41_ M41=>?_)
      have D_b0_bl:=zld B_b0 M41
      have D_b1_bl:=zld B_b1 M41
      replace B_b0:=zmo M41 B_b0
      replace B_b1:=zmo M41 B_b1
      have B_bl:=zmb M41
      replace EW:=zet EW M41
      replace OC:=Lib.hid (owns_ext OC.out M41.out.ext)
      replace OCL:=Lib.hid (owns_ext OCL.out M41.out.ext)
      go_wp2_with (first | (at_builtin; refine stop_at ?_) | ((with_reducible refine zst (L:=[44,41,31,100]) ?_ ?_); exact rfl))
      unfold Hid
      have hlit:=Row.of_owns (own_made (base:=0) (size:=6) (n:=1) M41.out (Nat.zero_le _) rfl (by decide))
      have hszl : b1 + 1 ≤ w41_.heap.size:=(Array.getElem?_eq_some_iff.1 B_b1.out).1
      refine wpList_append_row _ rfl (.tmp 41) (.tmp 44) 42 rfl (b1 + 1) 100 j0 (.agg #[.slice none 0 0,I 0,.bool false,I 0,.slice none 0 0,.slice none 0 0]) 6 96 Tryz.underlying42 HJ.out hy0 hy1 hy2 rfl (by decide) (.slice la k lcap) k _ rfl OCL.out _ rfl 1 _ hlit (ones_of rfl) (by have:=H3.out; omega) (by decide) hszl ?_
      intro v45 wq ho hg
      clear hlit hszl
      have hlo : ∀ b,b ≤ b1 → (Value.slice la k lcap).ownBlock ≠ some b:=fun b hb e=>by have:=(OCL.out.lt b e).1; omega
      have kb0:=keep_blk hg B_b0.out (hlo b0 (Nat.le_of_lt D_b0_b1.out))
      have kb1:=keep_blk hg B_b1.out (hlo b1 (Nat.le_refl _))
      have koc:=OC.out.kept hg (own_types OC.out OCL.out (by decide))
      have kew : Ext w wq:=EW.out.grown hg (fun b e=>by have q:=(OCL.out.lt b e).1; have q2:=O_b1.out; omega)
      replace B_b0:=Lib.hid kb0
      replace B_b1:=Lib.hid kb1
      replace OC:=Lib.hid koc
      replace EW:=Lib.hid kew
      clear kb0 kb1 koc kew hlo hg
      have hcsn:=newCs_snoc cvs k _ HCVK.out
      have OCN : Hid (wq.ownsRow (b1 + 1) 100 6 v45 (k + 1) (newCsOf (cvs.take (k + 1))).flatten):=by unfold Hid; rw [hcsn]; exact ho
      clear ho OCL hcsn
      obtain ⟨na,ncap,rfl⟩:=own_slice' OCN.out
      go_wp2_with ((with_reducible refine zst (L:=[44,41,31,100]) ?_ ?_); exact rfl)
      unfold Hid
      refine wpList_storeP rfl 42 (.tmp 46) (.tmp 45) rfl b1 19 rfl [.slice na (k + 1) ncap] (rfl) B_b1 rfl (by kernel_rfl) rfl [.slice (some ⟨bc,0,none⟩) 11 11,.slice none 0 0,.slice none 0 0,.slice none 0 0,I 0,.slice none 0 0,.bool false,I 0,I 0,I 0,I 0,I 0,I 0,.slice none 0 0,I 0,I 0,.bool true,I 0,I 0,.slice na (k + 1) ncap] rfl (fun w42_ M42=>?_)
      replace B_b0:=zwl M42 B_b0 D_b0_b1
      replace B_b1:=zwb M42
      replace OC:=Lib.hid (M42.out.owns OC.out (own_ne_gtN D_bc_b1.out))
      replace OCN:=Lib.hid (M42.out.owns OCN.out (fun e=>by have q:=(OCN.out.lt _ e).1; omega))
      replace EW:=zwe M42 EW O_b1
      go_wp2
      go_roundw
      case rel =>
       refine ⟨k + 1,_,by omega,by go_num,fun j x' hj hx'=>?_,B_b0.out,B_b1.out,OC.out,OCN.out,EW.out⟩
       by_cases hjk : j = k
       ·subst hjk
        have hx2 : l[j]? = some x':=hx'
        rw [HX.out] at hx2
        cases hx2
        refine ⟨by have:=H8.out; omega,fun y hy=>?_⟩
        obtain ⟨q,hq⟩:=List.mem_iff_getElem?.1 hy
        exact HALL.out q y (List.getElem?_eq_some_iff.1 hq).1 hq
       ·exact HOK.out j x' (by omega) hx'
      case measure=>simp [intOf]; omega
  ·have hkl : k = l.length:=by omega
   subst hkl
   have hrl : rightL l:=⟨by have:=H3.out; omega,fun c hc=>by
    obtain ⟨j,hj⟩:=List.mem_iff_getElem?.1 hc
    exact HOK.out j c (List.getElem?_eq_some_iff.1 hj).1 hj⟩
   have HRL:=Lib.hid hrl
   clear hrl
   go_wp2_with ((with_reducible refine zst (L:=[44,41,31,100]) ?_ ?_); exact rfl)
   unfold Hid
   refine wpList_loadW rfl 44 (.tmp 4) rfl b1 rfl B_b1 Tryz.underlying44 (by kernel_rfl) (fun v48 H_v48=>?_)
   go_wp2_with ((with_reducible refine zst (L:=[44,41,31,100]) ?_ ?_); exact rfl)
   unfold Hid
   refine wpList_storeW rfl 44 (.tmp 2) (.tmp 48) rfl b0 rfl _ (zcv H_v48) B_b0 rfl (by kernel_rfl) rfl (fun w41_ M41=>?_)
   replace B_b0:=zwb M41
   replace B_b1:=zwg M41 B_b1 D_b0_b1
   replace OC:=Lib.hid (M41.out.owns OC.out (own_ne_lt D_b0_bc.out))
   replace OCL:=Lib.hid (M41.out.owns OCL.out (fun e=>by have q:=(OCL.out.lt _ e).1; have q2:=D_b0_b1.out; omega))
   replace EW:=zwe M41 EW O_b0
   go_wp2
   have z0:=run_box (P:=Tryz.prog) 44 B_b0.out Tryz.underlying44 (by kernel_rfl)
   refine bodyPost_ret (by simp [results,Tryz.results23,asAddr,z0]; rfl) rfl ?_
   have hocl:=OCL.out
   rw [List.take_of_length_le (by rw [HCL.out]; exact Nat.le_refl _)] at hocl
   have hev : Rd A (fun w=>Each 6 elCn w (newCsOf cvs) (l.map newCn)) w41_:=(HE.out.ext EW.out).imp fun w hw=>each_new HCL.out (fun k x cv hx hcv=>by
    have hk : k < css.length:=by rw [hw.1]; exact (List.getElem?_eq_some_iff.1 hx).1
    have hc : css[k]? = some css[k]:=List.getElem?_eq_getElem hk
    obtain ⟨_,cv',h7,h8⟩:=hw.2 k _ x hc hx
    have h9:=flatten_get (by decide) hw.sizes hc (j:=0) (u:=cv') (by rw [h7]; rfl)
    rw [Nat.mul_one,Nat.add_zero,HCV.out,hcv] at h9
    cases h9
    exact h8)
   have hcl:=rd_own_of (A:=fun k=>A k ∨ w.heap.size ≤ k) (fun k h _=>.inr (by have q:=O_b1.out; omega)) (hev.widen fun k _ h=>.inl h) hocl (by decide)
   have hci:=(rd_ints OC.out).widen (B:=fun k=>A k ∨ w.heap.size ≤ k) (fun k _ h=>.inr (by have q:=O_bc.out; omega))
   refine ⟨_,rfl,EW.out,(RdM.mc (m:=newMc l) (A:=fun k=>A k ∨ w.heap.size ≤ k) ⟨hci,Rd.all fun w=>writes_nil w,Rd.all fun w=>RowOf.nil w,Rd.all fun w=>RowOf.nil w,Rd.all fun w=>RowOf.nil w,Rd.all fun w=>writes_nil w,hcl⟩).imp fun w h=>⟨_,_,rfl,.inl ⟨rfl,HRL.out,h⟩⟩⟩

theorem rd_new {l : List (List Cl)} {r : Value} {A : Nat → Prop} {w : World} (h : Rd A (NewT l r) w) : ∃ (cs : List Value) (e : Int),r = .tuple #[.agg cs.toArray,I e] ∧ ((e = 0 ∧ rightL l ∧ Rd A (fun w=>elMc w cs (newMc l)) w) ∨ (cs = zeroMcs ∧ e ≠ 0 ∧ ¬ rightL l)):=by
 obtain ⟨cs,e,e1,h1⟩:=h.out
 refine ⟨cs,e,e1,?_⟩
 rcases h1 with ⟨h2,h3,_⟩ | h2
 ·refine .inl ⟨h2,h3,h.imp fun w' hw=>?_⟩
  obtain ⟨cs2,e2,e3,h4⟩:=hw
  rw [e1] at e3
  have : cs = cs2 ∧ e = e2:=by simpa using e3
  obtain ⟨rfl,rfl⟩:=this
  rcases h4 with ⟨_,_,h5⟩ | ⟨_,_,h5⟩
  ·exact h5
  ·exact absurd h3 h5
 ·exact .inr h2

set_option maxHeartbeats 1000000 in
theorem refRight_any (v : Value) (l : List (List Cl)) (w : World) (hv : RowOf 1 elCls w v l) :
  Calls Tryz.prog 6 #[v] w fun e w'=>∃ b,e = .returned (.bool b) ∧ (b = true ↔ rightL l) ∧ Ext w w':=by
 have hrv : Rd (fun k=>k < w.heap.size) (fun w=>RowOf 1 elCls w v l) w:=Rd.of (rowOf_heap heapCls v l) hv
 have HV:=Lib.hid hrv
 clear hrv hv
 go_enter Tryz.func6,Tryz.ntmps6
 go_wp2_with fail
 refine (refNew_keeps v l w _ HV.out).to fun r w1 e1 hr=>?_
 obtain ⟨cs,e,rfl,hcs⟩:=rd_new hr
 clear hr
 have EW:=Lib.hid e1
 clear e1
 rcases hcs with ⟨rfl,hrl,hcs⟩ | ⟨rfl,hne,hrl⟩
 ·obtain ⟨c',u',a',p',box',plan',cl',rfl,hm⟩:=rd_mc hcs
  obtain ⟨ca',cc',ua',uc',aa',ac',pa',pc',xa',xc',la',lc',ka',kc',rfl,rfl,rfl,rfl,rfl,rfl,rfl⟩:=hm.slices
  have HRL:=Lib.hid hrl
  clear hcs hm hrl
  have Q0 : Hid (w.heap.size ≤ w1.heap.size):=EW.out.size
  go_wp2_with ((with_reducible refine zst (L:=[44,41,31,100]) ?_ ?_); exact rfl)
  unfold Hid
  refine wpList_allocB rfl 44 #[.slice none 0 0,.slice none 0 0,.slice none 0 0,.slice none 0 0,I 0,.slice none 0 0,.bool false,I 0,I 0,I 0,I 0,I 0,I 0,.slice none 0 0,I 0,I 0,.bool false,I 0,I 0,.slice none 0 0] (by kernel_rfl) (fun b0 w1_ M1=>?_)
  have B_b0:=zmb M1
  replace EW:=zet EW M1
  have O_b0 : Hid (w.heap.size ≤ b0):=by unfold Hid; have q:=M1.out.at_; have q2:=Q0.out; omega
  go_wp2_with ((with_reducible refine zst (L:=[44,41,31,100]) ?_ ?_); exact rfl)
  unfold Hid
  refine wpList_storeW rfl 44 (.tmp 3) (.tmp 8) rfl b0 rfl [.slice ca' (newMc l).store.cells.length cc',.slice ua' (newMc l).store.undo.length uc',.slice aa' (newMc l).store.answers.length ac',.slice pa' (newMc l).store.past.length pc',I (newMc l).server.gen,.slice xa' (newMc l).server.box.length xc',.bool (newMc l).server.busy,I (newMc l).server.now.client,I (newMc l).server.now.token,I (newMc l).server.now.call.kind,I (newMc l).server.now.call.name,I (newMc l).server.now.call.other,I (newMc l).server.now.call.n,.slice la' (newMc l).server.plan.length lc',I (newMc l).server.says.err,I (newMc l).server.says.n,.bool (newMc l).up,I (newMc l).pause,I (newMc l).falls,.slice ka' (newMc l).clients.length kc'] (rfl) B_b0 rfl (by kernel_rfl) rfl (fun w2_ M2=>?_)
  replace B_b0:=zwb M2
  replace EW:=zwe M2 EW O_b0
  go_wp2
  go_ret
  exact ⟨_,rfl,⟨fun _=>HRL.out,fun _=>rfl⟩,EW.out⟩
 ·have hb : (e == 0) = false:=by simpa using hne
  have HRL:=Lib.hid hrl
  clear hne hrl
  unfold zeroMcs
  have Q0 : Hid (w.heap.size ≤ w1.heap.size):=EW.out.size
  go_wp2_with ((with_reducible refine zst (L:=[44,41,31,100]) ?_ ?_); exact rfl)
  unfold Hid
  refine wpList_allocB rfl 44 #[.slice none 0 0,.slice none 0 0,.slice none 0 0,.slice none 0 0,I 0,.slice none 0 0,.bool false,I 0,I 0,I 0,I 0,I 0,I 0,.slice none 0 0,I 0,I 0,.bool false,I 0,I 0,.slice none 0 0] (by kernel_rfl) (fun b0 w1_ M1=>?_)
  have B_b0:=zmb M1
  replace EW:=zet EW M1
  have O_b0 : Hid (w.heap.size ≤ b0):=by unfold Hid; have q:=M1.out.at_; have q2:=Q0.out; omega
  go_wp2_with ((with_reducible refine zst (L:=[44,41,31,100]) ?_ ?_); exact rfl)
  unfold Hid
  refine wpList_storeW rfl 44 (.tmp 3) (.tmp 8) rfl b0 rfl [.slice none 0 0,.slice none 0 0,.slice none 0 0,.slice none 0 0,I 0,.slice none 0 0,.bool false,I 0,I 0,I 0,I 0,I 0,I 0,.slice none 0 0,I 0,I 0,.bool false,I 0,I 0,.slice none 0 0] (rfl) B_b0 rfl (by kernel_rfl) rfl (fun w2_ M2=>?_)
  replace B_b0:=zwb M2
  replace EW:=zwe M2 EW O_b0
  go_wp2
  go_ret
  exact ⟨_,rfl,⟨(fun h=>by cases h),fun h=>absurd h HRL.out⟩,EW.out⟩

end Go.Proofs.YtdmipnnfooleladGreat

namespace Go.Proofs.YtdmipnnfooleladGreat
open Go.RowKit Go.Mk
set_option maxRecDepth 100000

theorem Tryz.infoErrno : (Tryz.prog.info? 37).map (fun i=>(i.zero,i.size,i.bytes)) = some (some (.int .i64 0),1,8):=by kernel_rfl

/-- What a machine tells, step by step. -/
def playE (m : Mc) : List (Int × Int) → List Int
 | []=>[]
 | p :: l=>(doM m p.1 p.2).2 :: playE (doM m p.1 p.2).1 l
theorem playE_snoc (p : Int × Int) : ∀ (l : List (Int × Int)) (m : Mc),playE m (l ++ [p]) = playE m l ++ [(doM (playM m l) p.1 p.2).2]
 | [],m=>rfl
 | q :: l,m=>by
  show (doM m q.1 q.2).2 :: playE (doM m q.1 q.2).1 (l ++ [p]) = _
  rw [playE_snoc p l]
  rfl
theorem playM_snoc (p : Int × Int) (l : List (Int × Int)) (m : Mc) : playM m (l ++ [p]) = (doM (playM m l) p.1 p.2).1:=by
 unfold playM
 rw [List.foldl_append]
 rfl
theorem take_snoc {l : List (Int × Int)} {k : Nat} (h : k < l.length) : l.take (k + 1) = l.take k ++ [l.getD k (0,0)]:=by
 rw [List.take_add_one,List.getElem?_eq_getElem h,List.getD_eq_getElem?_getD,List.getElem?_eq_getElem h]
 rfl
theorem fit_play {l : List (List Cl)} (hl : rightL l) (steps : List (Int × Int)) {k : Nat} (hk : k ≤ 400) : Fit (playM (newMc l) (steps.take k)):=by
 obtain ⟨ks,bz,h⟩:=inv_all hl (steps.take k)
 have hs:=size_play (size_new l) (steps.take k)
 exact fit_of hl h (hs.mono (j:=400) (by rw [List.length_take]; omega)) (by omega)

def PlayT (l : List (List Cl)) (steps : List (Int × Int)) (r : Value) (w : World) : Prop:=∃ (cs : List Value) (es : Value),r = .tuple #[.agg cs.toArray,es] ∧ elMc w cs (playM (newMc l) (steps.take 400)) ∧ Ints w es (playE (newMc l) (steps.take 400))
theorem rd_play {l : List (List Cl)} {steps : List (Int × Int)} {r : Value} {A : Nat → Prop} {w : World} (h : Rd A (PlayT l steps r) w) : ∃ (cs : List Value) (es : Value),r = .tuple #[.agg cs.toArray,es] ∧ Rd A (fun w=>elMc w cs (playM (newMc l) (steps.take 400))) w ∧ Rd A (fun w=>Ints w es (playE (newMc l) (steps.take 400))) w:=by
 obtain ⟨cs,es,e1,h1,h2⟩:=h.out
 have key : ∀ w',PlayT l steps r w' → elMc w' cs (playM (newMc l) (steps.take 400)) ∧ Ints w' es (playE (newMc l) (steps.take 400)):=fun w' hw=>by
  obtain ⟨cs',es',e1',h3,h4⟩:=hw
  rw [e1] at e1'
  simp only [Value.tuple.injEq,Array.mk.injEq,List.cons.injEq,Value.agg.injEq,and_true] at e1'
  obtain ⟨q1,q2⟩:=e1'
  have q1 : cs = cs':=by simpa using q1
  subst q1 q2
  exact ⟨h3,h4⟩
 exact ⟨cs,es,e1,h.imp fun w' hw=>(key w' hw).1,h.imp fun w' hw=>(key w' hw).2⟩

set_option maxHeartbeats 4000000 in
theorem refPlay_keeps (v sv : Value) (l : List (List Cl)) (steps : List (Int × Int)) (w : World) (A : Nat → Prop) (hl : rightL l) (hv : Rd A (fun w=>RowOf 1 elCls w v l) w) (hs : Writes w sv steps) :
  Keeps Tryz.prog 7 #[v,sv] w A (PlayT l steps):=by
 unfold Keeps
 obtain ⟨sa0,scap,rfl,s1,s2,s3⟩:=hs.form
 unfold maxLen at s2
 have HS3:=Lib.hid s3
 have HL:=Lib.hid hl
 have HV:=Lib.hid (hv.widen (B:=fun k=>A k ∧ k < w.heap.size) (fun k hk h=>⟨h,hk⟩))
 clear hv hs s3 hl
 obtain ⟨va,vcap,rfl⟩:=rowOf_slice HV.out.out
 obtain ⟨j0,hj,hy0,hy1,hy2⟩:=info_parts Tryz.infoErrno
 have HJ:=Lib.hid hj
 clear hj
 have EW:=Lib.hid (Ext.refl w)
 go_enter Tryz.func7,Tryz.ntmps7
 go_wp2_with ((with_reducible refine zst (L:=[44,41,31,100]) ?_ ?_); exact rfl)
 unfold Hid
 refine wpList_allocB rfl 44 #[.slice none 0 0,.slice none 0 0,.slice none 0 0,.slice none 0 0,I 0,.slice none 0 0,.bool false,I 0,I 0,I 0,I 0,I 0,I 0,.slice none 0 0,I 0,I 0,.bool false,I 0,I 0,.slice none 0 0] (by kernel_rfl) (fun b0 w1_ M1=>?_)
 have B_b0:=zmb M1
 replace EW:=zet EW M1
 have O_b0 : Hid (w.heap.size ≤ b0):=by unfold Hid; have q:=M1.out.at_; omega
 go_wp2_with fail
 refine (refNew_keeps _ l w1_ (fun k=>A k ∧ k < w.heap.size) (HV.out.ext M1.out.ext)).to fun r w2 e2 hr=>?_
 obtain ⟨cs,e,rfl,hc⟩:=rd_new hr
 rcases hc with ⟨rfl,-,hm⟩ | ⟨-,-,hno⟩
 case inr=>exact absurd HL.out hno
 obtain ⟨c,u,a,p,box,plan,cl,rfl,hM⟩:=rd_mc hm
 obtain ⟨ca,cc,ua,uc,aa,ac,pa,pc,xa,xc,la,lc,ka,kc,rfl,rfl,rfl,rfl,rfl,rfl,rfl⟩:=hM.slices
 have H:=Lib.hid hM
 clear hM hm hr
 replace B_b0:=zbx B_b0 e2
 replace EW:=Lib.hid (EW.out.trans e2)
 have e2':=Lib.hid e2
 clear e2
 go_wp2_with ((with_reducible refine zst (L:=[44,41,31,100]) ?_ ?_); exact rfl)
 unfold Hid
 refine wpList_allocB rfl 44 #[.slice none 0 0,.slice none 0 0,.slice none 0 0,.slice none 0 0,I 0,.slice none 0 0,.bool false,I 0,I 0,I 0,I 0,I 0,I 0,.slice none 0 0,I 0,I 0,.bool false,I 0,I 0,.slice none 0 0] (by kernel_rfl) (fun b1 w2_ M2=>?_)
 have D_b0_b1:=zld B_b0 M2
 replace B_b0:=zmo M2 B_b0
 have B_b1:=zmb M2
 replace EW:=zet EW M2
 have O_b1 : Hid (w.heap.size ≤ b1):=by unfold Hid; have q:=D_b0_b1.out; have q2:=O_b0.out; omega
 obtain ⟨E,HE⟩ : ∃ E : Nat → Prop,Hid (∀ k,E k ↔ (((A k ∧ k < w.heap.size) ∨ w1_.heap.size ≤ k) ∧ k < b1)):=⟨_,fun _=>Iff.rfl⟩
 replace H:=Lib.hid ((H.out.widen (B:=E) (fun k hk h=>(HE.out k).2 ⟨h,by have q:=M2.out.at_; omega⟩)).ext M2.out.ext)
 have N_b0 : Hid (¬ E b0):=fun h=>by have q:=((HE.out _).1 h).1; have q1:=M1.out.at_; have q2:=M1.out.size; omega
 have N_b1 : Hid (¬ E b1):=fun h=>by have q:=((HE.out _).1 h).2; omega
 go_wp2_with ((with_reducible refine zst (L:=[44,41,31,100]) ?_ ?_); exact rfl)
 unfold Hid
 refine wpList_storeW rfl 44 (.tmp 6) (.tmp 16) rfl b1 rfl [.slice ca (newMc l).store.cells.length cc,.slice ua (newMc l).store.undo.length uc,.slice aa (newMc l).store.answers.length ac,.slice pa (newMc l).store.past.length pc,I (newMc l).server.gen,.slice xa (newMc l).server.box.length xc,.bool (newMc l).server.busy,I (newMc l).server.now.client,I (newMc l).server.now.token,I (newMc l).server.now.call.kind,I (newMc l).server.now.call.name,I (newMc l).server.now.call.other,I (newMc l).server.now.call.n,.slice la (newMc l).server.plan.length lc,I (newMc l).server.says.err,I (newMc l).server.says.n,.bool (newMc l).up,I (newMc l).pause,I (newMc l).falls,.slice ka (newMc l).clients.length kc] (rfl) B_b1 rfl (by kernel_rfl) rfl (fun w3_ M3=>?_)
 replace B_b0:=zwl M3 B_b0 D_b0_b1
 replace B_b1:=zwb M3
 replace H:=Lib.hid (M3.out.rdM H.out N_b1.out)
 replace EW:=zwe M3 EW O_b1
 go_wp2_with fail
 go_loopw [8,20] (fun es i wr=>∃ (k : Nat) (E : Nat → Prop) (mk : Mc) (c u a p box plan cl : Value),k ≤ steps.length ∧ k ≤ 400 ∧ i = I k ∧ mk = playM (newMc l) (steps.take k) ∧ RdM E wr mk c u a p box plan cl ∧ (∀ j,E j → j < wr.heap.size ∧ (A j ∨ w.heap.size ≤ j)) ∧ ¬ E b0 ∧ ¬ E b1 ∧ (∀ g,es.ownBlock = some g → ¬ E g) ∧ wr.heap[b0]? = some (.cells #[.slice none 0 0,.slice none 0 0,.slice none 0 0,.slice none 0 0,I 0,.slice none 0 0,.bool false,I 0,I 0,I 0,I 0,I 0,I 0,.slice none 0 0,I 0,I 0,.bool false,I 0,I 0,.slice none 0 0] 44 (0,0)) ∧ wr.heap[b1]? = some (.cells (cells20 mk c u a p box plan cl).toArray 44 (0,0)) ∧ wr.ownsRow (b1 + 1) 37 1 es k ((playE (newMc l) (steps.take k)).map I) ∧ Ext w wr) (fun _ i _=>steps.length - (intOf i).toNat)
 case atStart=>exact ⟨0,E,newMc l,_,_,_,_,_,_,_,Nat.zero_le _,Nat.zero_le _,rfl,rfl,H.out,fun j hj=>⟨by have q:=(HE.out j).1 hj; have q2:=(Array.getElem?_eq_some_iff.1 B_b1.out).1; omega,by rcases ((HE.out j).1 hj).1 with h | h; exact .inl h.1; exact .inr (by have q:=M1.out.ext.size; omega)⟩,N_b0.out,N_b1.out,fun g hg=>(by cases hg),B_b0.out,B_b1.out,World.ownsRow_nil _ _ _ _,EW.out⟩
 case round =>
  obtain ⟨k,E',mk,c',u',a',p',box',plan',cl',hk,h4,rfl,hmk,hm,hE,n0,n1,hes,hb0,hb1,ho,hex⟩:=hrel
  clear B_b0 B_b1 H EW N_b0 N_b1 HE e2'
  obtain ⟨ca,cc,ua,uc,aa,ac,pa,pc,xa,xc,la,lc,ka,kc,rfl,rfl,rfl,rfl,rfl,rfl,rfl⟩:=hm.slices
  obtain ⟨ea,ecap,rfl⟩:=own_slice' ho
  have HM:=Lib.hid hmk
  have H:=Lib.hid hm
  have HE:=Lib.hid hE
  have N_b0:=Lib.hid n0
  have N_b1:=Lib.hid n1
  have HES:=Lib.hid hes
  have B_b0:=Lib.hid hb0
  have B_b1 : Hid (wr.heap[b1]? = some (.cells #[.slice ca mk.store.cells.length cc,.slice ua mk.store.undo.length uc,.slice aa mk.store.answers.length ac,.slice pa mk.store.past.length pc,I mk.server.gen,.slice xa mk.server.box.length xc,.bool mk.server.busy,I mk.server.now.client,I mk.server.now.token,I mk.server.now.call.kind,I mk.server.now.call.name,I mk.server.now.call.other,I mk.server.now.call.n,.slice la mk.server.plan.length lc,I mk.server.says.err,I mk.server.says.n,.bool mk.up,I mk.pause,I mk.falls,.slice ka mk.clients.length kc] 44 (0,0))):=hb1
  have OE:=Lib.hid ho
  have EW:=Lib.hid hex
  clear hmk hm hE n0 n1 hes hb0 hb1 ho hex
  generalize hEr : (E' : Nat → Prop) = E at *
  clear hEr E'
  by_cases hlt : k < steps.length
  ·by_cases h400 : k = 400
   ·subst h400
    obtain ⟨sb,so,rfl,c0,c1⟩:=HS3.out 400 hlt
    replace c0:=EW.out.cell c0
    replace c1:=EW.out.cell c1
    generalize steps.getD 400 (0,0) = pp at c0 c1
    obtain ⟨kd,sn⟩:=pp
    simp only [] at c0 c1
    have OE0:=OE
    go_wp2_with ((with_reducible refine zst (L:=[44,41,31,100]) ?_ ?_); exact rfl)
    unfold Hid
    clear c0 c1
    refine wpList_allocB rfl 72 #[I 0,I 0] (by kernel_rfl) (fun b2 w41_ M41=>?_)
    have D_b0_b2:=zld B_b0 M41
    have D_b1_b2:=zld B_b1 M41
    replace B_b0:=zmo M41 B_b0
    replace B_b1:=zmo M41 B_b1
    have B_b2:=zmb M41
    replace H:=Lib.hid (H.out.ext M41.out.ext)
    replace OE:=Lib.hid (owns_ext OE.out M41.out.ext)
    replace EW:=zet EW M41
    have N_b2 : Hid (¬ E b2):=fun h=>by have q:=(HE.out _ h).1; have q1:=M41.out.at_; omega
    have O_b2 : Hid (w.heap.size ≤ b2):=by unfold Hid; have q:=D_b1_b2.out; have q2:=O_b1.out; omega
    have OEN : Hid ((Value.slice ea 400 ecap).ownBlock ≠ some b2):=fun e=>by have q:=(OE0.out.lt _ e).2; have q1:=M41.out.at_; omega
    go_wp2_with ((with_reducible refine zst (L:=[44,41,31,100]) ?_ ?_); exact rfl)
    unfold Hid
    refine wpList_storeW rfl 72 (.tmp 10) (.tmp 24) rfl b2 rfl [I kd,I sn] (rfl) B_b2 rfl (by kernel_rfl) rfl (fun w42_ M42=>?_)
    replace B_b0:=zwl M42 B_b0 D_b0_b2
    replace B_b1:=zwl M42 B_b1 D_b1_b2
    replace B_b2:=zwb M42
    replace H:=Lib.hid (M42.out.rdM H.out N_b2.out)
    replace OE:=Lib.hid (M42.out.owns OE.out OEN.out)
    replace EW:=zwe M42 EW O_b2
    go_wp2_with ((with_reducible refine zst (L:=[44,41,31,100]) ?_ ?_); exact rfl)
    unfold Hid
    refine wpList_loadW rfl 44 (.tmp 6) rfl b1 rfl B_b1 Tryz.underlying44 (by kernel_rfl) (fun v39 H_v39=>?_)
    go_wp2_with ((with_reducible refine zst (L:=[44,41,31,100]) ?_ ?_); exact rfl)
    unfold Hid
    refine wpList_storeW rfl 44 (.tmp 4) (.tmp 39) rfl b0 rfl _ (zcv H_v39) B_b0 rfl (by kernel_rfl) rfl (fun w43_ M43=>?_)
    replace B_b0:=zwb M43
    replace B_b1:=zwg M43 B_b1 D_b0_b1
    replace B_b2:=zwg M43 B_b2 D_b0_b2
    replace H:=Lib.hid (M43.out.rdM H.out N_b0.out)
    replace OE:=Lib.hid (M43.out.owns OE.out (fun e=>by have q:=(OE.out.lt _ e).1; have q2:=D_b0_b1.out; omega))
    replace EW:=zwe M43 EW O_b0
    go_wp2
    have z0:=run_box (P:=Tryz.prog) 44 B_b0.out Tryz.underlying44 (by kernel_rfl)
    refine bodyPost_ret (by simp [results,Tryz.results7,asAddr,z0]; rfl) rfl ?_
    have hmm:=HM.out
    have hoe:=OE.out
    have r1:=(H.out.widen (B:=fun k=>A k ∨ w.heap.size ≤ k) (fun k _ h=>(HE.out k h).2)).mc
    rw [hmm] at r1
    have r2:=(rd_owns hoe).widen (B:=fun k=>A k ∨ w.heap.size ≤ k) (fun k _ h=>.inr (by have q:=O_b1.out; omega))
    have hlen : (playE (newMc l) (steps.take 400)).length = 400:=by have q:=hoe.1; simpa using q
    refine ⟨_,rfl,EW.out,(r1.and r2).imp fun w' h=>⟨_,_,(by rw [← hmm]),h.1,?_⟩⟩
    have h2:=h.2
    unfold Ints
    rw [hlen]
    exact h2
   ·have h400i : ((k : Int) == 400) = false:=by simpa using (fun h : (k : Int) = 400=>h400 (by omega))
    have hk4 : k < 400:=by omega
    have HT:=Lib.hid (take_snoc hlt)
    have FIT:=Lib.hid (fit_play HL.out steps h4)
    rw [← HM.out] at FIT
    obtain ⟨sb,so,rfl,c0,c1⟩:=HS3.out k hlt
    replace c0:=EW.out.cell c0
    replace c1:=EW.out.cell c1
    generalize steps.getD k (0,0) = pp at *
    obtain ⟨kd,sn⟩:=pp
    simp only [] at c0 c1
    have OE0:=OE
    go_wp2_with ((with_reducible refine zst (L:=[44,41,31,100]) ?_ ?_); exact rfl)
    unfold Hid
    clear c0 c1
    refine wpList_allocB rfl 72 #[I 0,I 0] (by kernel_rfl) (fun b2 w61_ M61=>?_)
    have D_b0_b2:=zld B_b0 M61
    have D_b1_b2:=zld B_b1 M61
    replace B_b0:=zmo M61 B_b0
    replace B_b1:=zmo M61 B_b1
    have B_b2:=zmb M61
    replace H:=Lib.hid (H.out.ext M61.out.ext)
    replace OE:=Lib.hid (owns_ext OE.out M61.out.ext)
    replace EW:=zet EW M61
    have B2AT : Hid (b2 = wr.heap.size):=M61.out.at_
    have N_b2 : Hid (¬ E b2):=fun h=>by have q:=(HE.out _ h).1; have q1:=M61.out.at_; omega
    have O_b2 : Hid (w.heap.size ≤ b2):=by unfold Hid; have q:=D_b1_b2.out; have q2:=O_b1.out; omega
    have OEN : Hid ((Value.slice ea k ecap).ownBlock ≠ some b2):=fun e=>by have q:=(OE0.out.lt _ e).2; have q1:=M61.out.at_; omega
    go_wp2_with ((with_reducible refine zst (L:=[44,41,31,100]) ?_ ?_); exact rfl)
    unfold Hid
    refine wpList_storeW rfl 72 (.tmp 10) (.tmp 24) rfl b2 rfl [I kd,I sn] (rfl) B_b2 rfl (by kernel_rfl) rfl (fun w62_ M62=>?_)
    replace B_b0:=zwl M62 B_b0 D_b0_b2
    replace B_b1:=zwl M62 B_b1 D_b1_b2
    replace B_b2:=zwb M62
    replace H:=Lib.hid (M62.out.rdM H.out N_b2.out)
    replace OE:=Lib.hid (M62.out.owns OE.out OEN.out)
    replace EW:=zwe M62 EW O_b2
    clear h400
    go_wp2_with ((with_reducible refine zst (L:=[44,41,31,100]) ?_ ?_); exact rfl)
    unfold Hid
    clear h400i
    refine wpList_loadW rfl 44 (.tmp 6) rfl b1 rfl B_b1 Tryz.underlying44 (by kernel_rfl) (fun v28 H_v28=>?_)
    have q0:=cell_of (i:=0) B_b2.out rfl
    have q1:=cell_of (i:=1) B_b2.out rfl
    go_wp2_with fail
    clear q0 q1
    rw [show _ = Value.agg #[.slice ca mk.store.cells.length cc,.slice ua mk.store.undo.length uc,.slice aa mk.store.answers.length ac,.slice pa mk.store.past.length pc,I mk.server.gen,.slice xa mk.server.box.length xc,.bool mk.server.busy,I mk.server.now.client,I mk.server.now.token,I mk.server.now.call.kind,I mk.server.now.call.name,I mk.server.now.call.other,I mk.server.now.call.n,.slice la mk.server.plan.length lc,I mk.server.says.err,I mk.server.says.n,.bool mk.up,I mk.pause,I mk.falls,.slice ka mk.clients.length kc] from H_v28.out]
    refine (refDo_keeps mk _ _ _ _ _ _ _ kd sn w62_ E H.out FIT.out).to fun r w9 e9 hr=>?_
    obtain ⟨m2,er,hD⟩ : ∃ x y,doM mk kd sn = (x,y):=⟨_,_,rfl⟩
    rw [hD] at hr
    have HD:=Lib.hid hD
    clear hD H_v28
    simp only [] at hr
    obtain ⟨cs,rfl,hcs⟩:=rd_tupE hr
    obtain ⟨c2,u2,a2,p2,box2,plan2,cl2,rfl,hm2⟩:=rd_mc hcs
    obtain ⟨ca2,cc2,ua2,uc2,aa2,ac2,pa2,pc2,xa2,xc2,la2,lc2,ka2,kc2,rfl,rfl,rfl,rfl,rfl,rfl,rfl⟩:=hm2.slices
    clear hcs hr H
    have H:=Lib.hid hm2
    clear hm2
    have SC : Hid (b2 < w62_.heap.size):=(Array.getElem?_eq_some_iff.1 B_b2.out).1
    have SC9 : Hid (w62_.heap.size ≤ w9.heap.size):=e9.size
    have OES : Hid (∀ g,(Value.slice ea k ecap).ownBlock = some g → g < b2):=fun g hg=>by have q:=(OE0.out.lt g hg).2; have q1:=(Array.getElem?_eq_some_iff.1 B_b2.out).1; have q2:=B2AT.out; omega
    replace B_b0:=zbx B_b0 e9
    replace B_b1:=zbx B_b1 e9
    replace B_b2:=zbx B_b2 e9
    replace OE:=Lib.hid (owns_ext OE.out e9)
    replace EW:=Lib.hid (EW.out.trans e9)
    clear e9
    go_wp2_with ((with_reducible refine zst (L:=[44,41,31,100]) ?_ ?_); exact rfl)
    unfold Hid
    refine wpList_allocB rfl 44 #[.slice none 0 0,.slice none 0 0,.slice none 0 0,.slice none 0 0,I 0,.slice none 0 0,.bool false,I 0,I 0,I 0,I 0,I 0,I 0,.slice none 0 0,I 0,I 0,.bool false,I 0,I 0,.slice none 0 0] (by kernel_rfl) (fun b3 w63_ M63=>?_)
    have D_b0_b3:=zld B_b0 M63
    have D_b1_b3:=zld B_b1 M63
    have D_b2_b3:=zld B_b2 M63
    replace B_b0:=zmo M63 B_b0
    replace B_b1:=zmo M63 B_b1
    replace B_b2:=zmo M63 B_b2
    have B_b3:=zmb M63
    replace OE:=Lib.hid (owns_ext OE.out M63.out.ext)
    replace EW:=zet EW M63
    obtain ⟨E2,HE2⟩ : ∃ X : Nat → Prop,Hid (∀ k,X k ↔ ((E k ∨ w62_.heap.size ≤ k) ∧ k < b3)):=⟨_,fun _=>Iff.rfl⟩
    replace H:=Lib.hid ((H.out.widen (B:=E2) (fun k hk h=>(HE2.out k).2 ⟨h,by have q:=M63.out.at_; omega⟩)).ext M63.out.ext)
    have N_b3 : Hid (¬ E2 b3):=fun h=>by have q:=((HE2.out _).1 h).2; omega
    replace N_b1 : Hid (¬ E2 b1):=fun h=>by rcases ((HE2.out _).1 h).1 with q | q; exact N_b1.out q; exact absurd q (by have q1:=D_b1_b2.out; have q2:=SC.out; omega)
    replace N_b0 : Hid (¬ E2 b0):=fun h=>by rcases ((HE2.out _).1 h).1 with q | q; exact N_b0.out q; exact absurd q (by have q1:=D_b0_b1.out; have q3:=D_b1_b2.out; have q2:=SC.out; omega)
    have HG : Hid (∀ g,(Value.slice ea k ecap).ownBlock = some g → ¬ E2 g):=fun g hg h=>by rcases ((HE2.out _).1 h).1 with q | q; exact HES.out g hg q; exact absurd q (by have q1:=OES.out g hg; have q2:=SC.out; omega)
    have HIN : Hid (∀ j,E2 j → j < b3 ∧ (A j ∨ w.heap.size ≤ j)):=fun j h=>⟨((HE2.out _).1 h).2,by rcases ((HE2.out _).1 h).1 with q | q; exact (HE.out j q).2; exact .inr (by have q1:=O_b2.out; have q2:=SC.out; omega)⟩
    have O_b3 : Hid (w.heap.size ≤ b3):=by unfold Hid; have q:=D_b1_b3.out; have q2:=O_b1.out; omega
    clear HE2 HES HE N_b2
    go_wp2_with ((with_reducible refine zst (L:=[44,41,31,100]) ?_ ?_); exact rfl)
    unfold Hid
    refine wpList_storeW rfl 44 (.tmp 11) (.tmp 31) rfl b3 rfl [.slice ca2 m2.store.cells.length cc2,.slice ua2 m2.store.undo.length uc2,.slice aa2 m2.store.answers.length ac2,.slice pa2 m2.store.past.length pc2,I m2.server.gen,.slice xa2 m2.server.box.length xc2,.bool m2.server.busy,I m2.server.now.client,I m2.server.now.token,I m2.server.now.call.kind,I m2.server.now.call.name,I m2.server.now.call.other,I m2.server.now.call.n,.slice la2 m2.server.plan.length lc2,I m2.server.says.err,I m2.server.says.n,.bool m2.up,I m2.pause,I m2.falls,.slice ka2 m2.clients.length kc2] (rfl) B_b3 rfl (by kernel_rfl) rfl (fun w64_ M64=>?_)
    replace B_b0:=zwl M64 B_b0 D_b0_b3
    replace B_b1:=zwl M64 B_b1 D_b1_b3
    replace B_b2:=zwl M64 B_b2 D_b2_b3
    replace B_b3:=zwb M64
    replace H:=Lib.hid (M64.out.rdM H.out N_b3.out)
    replace OE:=Lib.hid (M64.out.owns OE.out (fun e=>by have q:=OES.out _ e; have q2:=D_b2_b3.out; omega))
    replace EW:=zwe M64 EW O_b3
    go_wp2_with ((with_reducible refine zst (L:=[44,41,31,100]) ?_ ?_); exact rfl)
    unfold Hid
    refine wpList_loadW rfl 44 (.tmp 11) rfl b3 rfl B_b3 Tryz.underlying44 (by kernel_rfl) (fun v33 H_v33=>?_)
    go_wp2_with ((with_reducible refine zst (L:=[44,41,31,100]) ?_ ?_); exact rfl)
    unfold Hid
    refine wpList_storeW rfl 44 (.tmp 6) (.tmp 33) rfl b1 rfl _ (zcv H_v33) B_b1 rfl (by kernel_rfl) rfl (fun w65_ M65=>?_)
    replace B_b0:=zwl M65 B_b0 D_b0_b1
    replace B_b1:=zwb M65
    replace B_b2:=zwg M65 B_b2 D_b1_b2
    replace B_b3:=zwg M65 B_b3 D_b1_b3
    replace H:=Lib.hid (M65.out.rdM H.out N_b1.out)
    replace OE:=Lib.hid (M65.out.owns OE.out (fun e=>by have q:=(OE.out.lt _ e).1; omega))
    replace EW:=zwe M65 EW O_b1
    go_wp2_with ((with_reducible refine zst (L:=[44,41,31,100]) ?_ ?_); exact rfl)
    unfold Hid
    refine wpList_litB rfl 37 1 #[I er] (by kernel_rfl) (fun bl w66_ M66=>?_)
    have D_b0_bl:=zld B_b0 M66
    have D_b1_bl:=zld B_b1 M66
    have D_b2_bl:=zld B_b2 M66
    have D_b3_bl:=zld B_b3 M66
    replace B_b0:=zmo M66 B_b0
    replace B_b1:=zmo M66 B_b1
    replace B_b2:=zmo M66 B_b2
    replace B_b3:=zmo M66 B_b3
    have B_bl:=zmb M66
    replace H:=Lib.hid (H.out.ext M66.out.ext)
    replace OE:=Lib.hid (owns_ext OE.out M66.out.ext)
    replace EW:=zet EW M66
    go_wp2_with (first | (at_builtin; refine stop_at ?_) | ((with_reducible refine zst (L:=[44,41,31,100]) ?_ ?_); exact rfl))
    unfold Hid
    have hlit:=Row.of_owns (own_made (base:=0) (size:=1) (n:=1) M66.out (Nat.zero_le _) rfl (by decide))
    have hszl : b1 + 1 ≤ w66_.heap.size:=(Array.getElem?_eq_some_iff.1 B_b1.out).1
    have SB3 : Hid (b3 < w66_.heap.size):=(Array.getElem?_eq_some_iff.1 B_b3.out).1
    refine wpList_append_fresh rfl (.tmp 34) (.tmp 36) 45 rfl (b1 + 1) 37 j0 (.int .i64 0) 1 8 Tryz.underlying45 HJ.out hy0 hy1 hy2 rfl (by decide) (.slice ea k ecap) k _ rfl OE.out _ rfl 1 _ hlit (ones_of rfl) (by omega) (by decide) hszl ?_
    intro v37 wq ho hg hfr
    clear hlit hszl
    have hlo : ∀ b,b ≤ b1 → (Value.slice ea k ecap).ownBlock ≠ some b:=fun b hb e=>by have:=(OE.out.lt b e).1; omega
    have kb0:=keep_blk hg B_b0.out (hlo b0 (Nat.le_of_lt D_b0_b1.out))
    have kb1:=keep_blk hg B_b1.out (hlo b1 (Nat.le_refl _))
    have kew : Ext w wq:=EW.out.grown hg (fun b e=>by have q:=(OE.out.lt b e).1; have q2:=O_b1.out; omega)
    have kh : RdM E2 wq m2 _ _ _ _ _ _ _:=⟨H.out.cells.grown hg HG.out,H.out.undo.grown hg HG.out,H.out.answers.grown hg HG.out,H.out.past.grown hg HG.out,H.out.box.grown hg HG.out,H.out.plan.grown hg HG.out,H.out.clients.grown hg HG.out⟩
    have ksz : b3 < wq.heap.size:=Nat.lt_of_lt_of_le SB3.out hg.size
    have KF : Hid (∀ g,v37.ownBlock = some g → ¬ E2 g):=fun g hgv h=>by
     rcases hfr with hf | hf
     ·rw [hf] at hgv
      exact HG.out g hgv h
     ·have q:=hf g hgv
      have q2:=(HIN.out g h).1
      have q3:=SB3.out
      omega
    clear B_b0 B_b1 B_b2 B_b3 B_bl EW H hg hfr hlo OE0
    have K0:=Lib.hid kb0
    have K1:=Lib.hid kb1
    have KE:=Lib.hid kew
    have KH:=Lib.hid kh
    have KO:=Lib.hid ho
    have KS:=Lib.hid ksz
    clear kb0 kb1 kew kh ho ksz OE
    obtain ⟨na,ncap,rfl⟩:=own_slice' KO.out
    go_wp2
    go_roundw
    case rel =>
     have hp : m2 = playM (newMc l) (steps.take (k + 1)):=by
      rw [HT.out,playM_snoc,← HM.out]
      exact (congrArg Prod.fst HD.out).symm
     have he : playE (newMc l) (steps.take (k + 1)) = playE (newMc l) (steps.take k) ++ [er]:=by
      rw [HT.out,playE_snoc,← HM.out]
      have q:=congrArg Prod.snd HD.out
      simp only [] at q
      rw [q]
     refine ⟨k + 1,E2,m2,_,_,_,_,_,_,_,by omega,by omega,by go_num,hp,KH.out,fun j hj=>⟨by have q:=(HIN.out j hj).1; have q2:=KS.out; omega,(HIN.out j hj).2⟩,N_b0.out,N_b1.out,KF.out,K0.out,K1.out,?_,KE.out⟩
     rw [he,List.map_append]
     exact KO.out
    case measure=>simp [intOf]; omega
  ·have hkl : k = steps.length:=by omega
   subst hkl
   go_wp2_with ((with_reducible refine zst (L:=[44,41,31,100]) ?_ ?_); exact rfl)
   unfold Hid
   refine wpList_loadW rfl 44 (.tmp 6) rfl b1 rfl B_b1 Tryz.underlying44 (by kernel_rfl) (fun v39 H_v39=>?_)
   go_wp2_with ((with_reducible refine zst (L:=[44,41,31,100]) ?_ ?_); exact rfl)
   unfold Hid
   refine wpList_storeW rfl 44 (.tmp 4) (.tmp 39) rfl b0 rfl _ (zcv H_v39) B_b0 rfl (by kernel_rfl) rfl (fun w41_ M41=>?_)
   replace B_b0:=zwb M41
   replace B_b1:=zwg M41 B_b1 D_b0_b1
   replace H:=Lib.hid (M41.out.rdM H.out N_b0.out)
   replace OE:=Lib.hid (M41.out.owns OE.out (fun e=>by have q:=(OE.out.lt _ e).1; have q2:=D_b0_b1.out; omega))
   replace EW:=zwe M41 EW O_b0
   go_wp2
   have z0:=run_box (P:=Tryz.prog) 44 B_b0.out Tryz.underlying44 (by kernel_rfl)
   refine bodyPost_ret (by simp [results,Tryz.results7,asAddr,z0]; rfl) rfl ?_
   have ht : steps.take steps.length = steps.take 400:=by rw [List.take_length,List.take_of_length_le h4]
   have hmm:=HM.out
   rw [ht] at hmm
   have hoe:=OE.out
   rw [ht] at hoe
   have r1:=(H.out.widen (B:=fun k=>A k ∨ w.heap.size ≤ k) (fun k _ h=>(HE.out k h).2)).mc
   rw [hmm] at r1
   have r2:=(rd_owns hoe).widen (B:=fun k=>A k ∨ w.heap.size ≤ k) (fun k _ h=>.inr (by have q:=O_b1.out; omega))
   have hlen : (playE (newMc l) (steps.take 400)).length = steps.length:=by have q:=hoe.1; simpa using q
   refine ⟨_,rfl,EW.out,(r1.and r2).imp fun w' h=>⟨_,_,(by rw [← hmm]),h.1,?_⟩⟩
   have h2:=h.2
   unfold Ints
   rw [hlen]
   exact h2

end Go.Proofs.YtdmipnnfooleladGreat

namespace Go.Proofs.YtdmipnnfooleladGreat
open Go.RowKit Go.Mk
set_option maxRecDepth 100000

/-- Requests, place by place. -/
theorem rqs_form {w : World} {v : Value} {l : List Rq} (h : RowOf 6 elRq w v l) : ∃ ao cap,v = .slice ao l.length cap ∧ l.length ≤ cap ∧ cap ≤ maxLen ∧
  ∀ k r,l[k]? = some r → ∃ b off,ao = some ⟨b,off,none⟩ ∧ w.cell? ⟨b,off + k * 6,none⟩ = some (I r.client) ∧ w.cell? ⟨b,off + k * 6 + 1,none⟩ = some (I r.token) ∧ w.cell? ⟨b,off + k * 6 + 2,none⟩ = some (I r.call.kind) ∧
   w.cell? ⟨b,off + k * 6 + 3,none⟩ = some (I r.call.name) ∧ w.cell? ⟨b,off + k * 6 + 4,none⟩ = some (I r.call.other) ∧ w.cell? ⟨b,off + k * 6 + 5,none⟩ = some (I r.call.n):=(rowOf_reqs.1 h).form

set_option maxHeartbeats 1000000 in
theorem sameStore_eq (c u a p c' u' a' p' : Value) (s : St) (w : World) (h : elSt w [c,u,a,p] s) (h' : elSt w [c',u',a',p'] s) :
  Calls Tryz.prog 14 #[.agg #[c,u,a,p],.agg #[c',u',a',p']] w fun e w'=>e = .returned (.bool true) ∧ Ext w w':=by
 obtain ⟨h1,h2,h3,h4⟩:=st_iff.1 h
 obtain ⟨k1,k2,k3,k4⟩:=st_iff.1 h'
 clear h h'
 obtain ⟨aa,ac,rfl,g1,g2,g3⟩:=ans_form h3
 obtain ⟨ba,bc,rfl,_,f2,f3⟩:=ans_form k3
 obtain ⟨pa,pc,rfl,_,m2,m3⟩:=rqs_form h4
 obtain ⟨qa,qc,rfl,_,n2,n3⟩:=rqs_form k4
 unfold maxLen at g2 f2 m2 n2
 clear h3 k3 h4 k4
 have e0 : Ext w ((w.alloc (.cells #[c,u,.slice aa s.answers.length ac,.slice pa s.past.length pc] 31)).alloc (.cells #[c',u',.slice ba s.answers.length bc,.slice qa s.past.length qc] 31)):=((Ext.refl w).alloc _).alloc _
 have HB:=Lib.hid (fun wx (h : Ext ((w.alloc (.cells #[c,u,.slice aa s.answers.length ac,.slice pa s.past.length pc] 31)).alloc (.cells #[c',u',.slice ba s.answers.length bc,.slice qa s.past.length qc] 31)) wx)=>And.intro (first_block h) (second_block h))
 have hst : Tryz.prog.stoodInHeld 59 = false:=by kernel_rfl
 have hgd : Tryz.prog.eqGuardType Tryz.prog.depth 59 = false:=by kernel_rfl
 have hst2 : Tryz.prog.stoodInHeld 36 = false:=by kernel_rfl
 have hgd2 : Tryz.prog.eqGuardType Tryz.prog.depth 36 = false:=by kernel_rfl
 have G3:=Lib.hid g3
 have F3:=Lib.hid f3
 have M3:=Lib.hid m3
 have N3:=Lib.hid n3
 clear g3 f3 m3 n3
 generalize s.answers = al at *
 generalize s.past = pl at *
 go_enter Tryz.func14,Tryz.ntmps14
 go_wp2_with fail
 generalize hw0 : (w.alloc (.cells #[c,u,.slice aa al.length ac,.slice pa pl.length pc] 31)).alloc (.cells #[c',u',.slice ba al.length bc,.slice qa pl.length qc] 31) = w0 at *
 clear hw0
 refine (sameInts_eq rfl (h1.ext e0) (k1.ext e0)).to fun r w1 e1 hr=>?_
 subst hr
 obtain ⟨b0,b1⟩:=HB.out w1 e1
 obtain ⟨x0,x1,x2,x3,-⟩:=box4 b0
 obtain ⟨y0,y1,y2,y3,-⟩:=box4 b1
 go_wp2_with fail
 clear x0 x1 x2 x3 y0 y1 y2 y3 b0 b1
 refine (sameWrites_eq rfl (h2.ext (e0.trans e1)) (k2.ext (e0.trans e1))).to fun r w2 e2 hr=>?_
 subst hr
 replace e2:=e1.trans e2
 clear e1 h1 h2 k1 k2
 obtain ⟨b0,b1⟩:=HB.out w2 e2
 obtain ⟨x0,x1,x2,x3,-⟩:=box4 b0
 obtain ⟨y0,y1,y2,y3,-⟩:=box4 b1
 go_wp2
 clear x0 x1 x2 x3 y0 y1 y2 y3 b0 b1
 go_loopw [42] (fun i wr=>∃ k : Nat,k ≤ al.length ∧ i = I k ∧ Ext w0 wr) (fun i _=>al.length - (intOf i).toNat)
 case atStart=>exact ⟨0,by omega,rfl,e2⟩
 case round =>
  obtain ⟨k,hk,rfl,he⟩:=hrel
  by_cases hlt : k < al.length
  ·obtain ⟨x,hx⟩ : ∃ x,al[k]? = some x:=⟨al[k],List.getElem?_eq_getElem hlt⟩
   obtain ⟨b,off,rfl,c0,c1,c2,c3⟩:=G3.out k x hx
   obtain ⟨b',off',rfl,d0,d1,d2,d3⟩:=F3.out k x hx
   clear hx
   have mr : Ext w wr:=e0.trans he
   replace c0:=mr.cell c0
   replace c1:=mr.cell c1
   replace c2:=mr.cell c2
   replace c3:=mr.cell c3
   replace d0:=mr.cell d0
   replace d1:=mr.cell d1
   replace d2:=mr.cell d2
   replace d3:=mr.cell d3
   obtain ⟨b0,b1⟩:=HB.out wr he
   obtain ⟨x0,x1,x2,x3,-⟩:=box4 b0
   obtain ⟨y0,y1,y2,y3,-⟩:=box4 b1
   obtain ⟨xc,xt,⟨xe,xn⟩⟩:=x
   go_wp2_with fail
   refine wp_region_mono [none,none,none,none,none,none,none,none,none,none,none] (by kernel_rfl) (by kernel_rfl) ?_ ?_
   ·exact ⟨trivial,trivial,trivial,trivial,trivial,trivial,trivial,trivial,trivial,trivial,trivial,trivial⟩
   iterate 1 (refine wpM_p (fun K hK=>?_); go_simp; first | refine hK _ ?_ | refine ⟨(fun h=>by cases h),hK _ ?_⟩; clear hK K)
   refine wpM_q (.slice (some ⟨b,off,none⟩) al.length ac) rfl (fun w' hw'=>by have q0:=hw'.cell x2; go_simp) ?_
   refine wpM_norm (fun K hK=>?_); go_simp; refine hK _ ?_; clear hK K
   iterate 2 (refine wpM_p (fun K hK=>?_); go_simp; first | refine hK _ ?_ | refine ⟨(fun h=>by cases h),hK _ ?_⟩; clear hK K)
   refine wpM_q (.agg #[I xc,I xt,I xe,I xn]) rfl (fun w' hw'=>by have q0:=hw'.cell c0; have q1:=hw'.cell c1; have q2:=hw'.cell c2; have q3:=hw'.cell c3; go_simp) ?_
   refine wpM_norm (fun K hK=>?_); go_simp; refine hK _ ?_; clear hK K
   iterate 1 (refine wpM_p (fun K hK=>?_); go_simp; first | refine hK _ ?_ | refine ⟨(fun h=>by cases h),hK _ ?_⟩; clear hK K)
   refine wpM_q (.slice (some ⟨b',off',none⟩) al.length bc) rfl (fun w' hw'=>by have q0:=hw'.cell y2; go_simp) ?_
   refine wpM_norm (fun K hK=>?_); go_simp; refine hK _ ?_; clear hK K
   iterate 2 (refine wpM_p (fun K hK=>?_); go_simp; first | refine hK _ ?_ | refine ⟨(fun h=>by cases h),hK _ ?_⟩; clear hK K)
   refine wpM_q (.agg #[I xc,I xt,I xe,I xn]) rfl (fun w' hw'=>by have q0:=hw'.cell d0; have q1:=hw'.cell d1; have q2:=hw'.cell d2; have q3:=hw'.cell d3; go_simp) ?_
   refine wpM_norm (fun K hK=>?_); go_simp; refine hK _ ?_; clear hK K
   iterate 1 (refine wpM_p (fun K hK=>?_); go_simp; first | refine hK _ ?_ | refine ⟨(fun h=>by cases h),hK _ ?_⟩; clear hK K)
   refine wpM_nil ?_
   intro wn hen _
   clear c0 c1 c2 c3 d0 d1 d2 d3 x0 x1 x2 x3 y0 y1 y2 y3 b0 b1
   go_wp2
   go_roundw
   case rel=>exact ⟨k + 1,by omega,by go_num,he.trans hen⟩
   case measure=>simp [intOf]; omega
  ·have mr : Ext w wr:=e0.trans he
   obtain ⟨b0,b1⟩:=HB.out wr he
   obtain ⟨x0,x1,x2,x3,-⟩:=box4 b0
   clear b0 b1
   go_wp2
   clear x0 x1 x2 x3
   go_loopw [60] (fun i wr=>∃ k : Nat,k ≤ pl.length ∧ i = I k ∧ Ext w0 wr) (fun i _=>pl.length - (intOf i).toNat)
   case atStart=>exact ⟨0,by omega,rfl,he⟩
   case round =>
    clear he mr
    obtain ⟨k,hk,rfl,he⟩:=hrel
    by_cases hlt : k < pl.length
    ·obtain ⟨x,hx⟩ : ∃ x,pl[k]? = some x:=⟨pl[k],List.getElem?_eq_getElem hlt⟩
     obtain ⟨b,off,rfl,c0,c1,c2,c3,c4,c5⟩:=M3.out k x hx
     obtain ⟨b',off',rfl,d0,d1,d2,d3,d4,d5⟩:=N3.out k x hx
     clear hx
     have mr : Ext w wr:=e0.trans he
     replace c0:=mr.cell c0
     replace c1:=mr.cell c1
     replace c2:=mr.cell c2
     replace c3:=mr.cell c3
     replace c4:=mr.cell c4
     replace c5:=mr.cell c5
     replace d0:=mr.cell d0
     replace d1:=mr.cell d1
     replace d2:=mr.cell d2
     replace d3:=mr.cell d3
     replace d4:=mr.cell d4
     replace d5:=mr.cell d5
     obtain ⟨b0,b1⟩:=HB.out wr he
     obtain ⟨x0,x1,x2,x3,-⟩:=box4 b0
     obtain ⟨y0,y1,y2,y3,-⟩:=box4 b1
     obtain ⟨xc,xt,⟨xk,xa,xo,xn⟩⟩:=x
     go_wp2_with fail
     refine wp_region_mono [none,none,none,none,none,none,none,none,none,none,none] (by kernel_rfl) (by kernel_rfl) ?_ ?_
     ·exact ⟨trivial,trivial,trivial,trivial,trivial,trivial,trivial,trivial,trivial,trivial,trivial,trivial⟩
     iterate 1 (refine wpM_p (fun K hK=>?_); go_simp; first | refine hK _ ?_ | refine ⟨(fun h=>by cases h),hK _ ?_⟩; clear hK K)
     refine wpM_q (.slice (some ⟨b,off,none⟩) pl.length pc) rfl (fun w' hw'=>by have q0:=hw'.cell x3; go_simp) ?_
     refine wpM_norm (fun K hK=>?_); go_simp; refine hK _ ?_; clear hK K
     iterate 2 (refine wpM_p (fun K hK=>?_); go_simp; first | refine hK _ ?_ | refine ⟨(fun h=>by cases h),hK _ ?_⟩; clear hK K)
     refine wpM_q (.agg #[I xc,I xt,I xk,I xa,I xo,I xn]) rfl (fun w' hw'=>by have q0:=hw'.cell c0; have q1:=hw'.cell c1; have q2:=hw'.cell c2; have q3:=hw'.cell c3; have q4:=hw'.cell c4; have q5:=hw'.cell c5; go_simp) ?_
     refine wpM_norm (fun K hK=>?_); go_simp; refine hK _ ?_; clear hK K
     iterate 1 (refine wpM_p (fun K hK=>?_); go_simp; first | refine hK _ ?_ | refine ⟨(fun h=>by cases h),hK _ ?_⟩; clear hK K)
     refine wpM_q (.slice (some ⟨b',off',none⟩) pl.length qc) rfl (fun w' hw'=>by have q0:=hw'.cell y3; go_simp) ?_
     refine wpM_norm (fun K hK=>?_); go_simp; refine hK _ ?_; clear hK K
     iterate 2 (refine wpM_p (fun K hK=>?_); go_simp; first | refine hK _ ?_ | refine ⟨(fun h=>by cases h),hK _ ?_⟩; clear hK K)
     refine wpM_q (.agg #[I xc,I xt,I xk,I xa,I xo,I xn]) rfl (fun w' hw'=>by have q0:=hw'.cell d0; have q1:=hw'.cell d1; have q2:=hw'.cell d2; have q3:=hw'.cell d3; have q4:=hw'.cell d4; have q5:=hw'.cell d5; go_simp) ?_
     refine wpM_norm (fun K hK=>?_); go_simp; refine hK _ ?_; clear hK K
     iterate 1 (refine wpM_p (fun K hK=>?_); go_simp; first | refine hK _ ?_ | refine ⟨(fun h=>by cases h),hK _ ?_⟩; clear hK K)
     refine wpM_nil ?_
     intro wn hen _
     clear c0 c1 c2 c3 c4 c5 d0 d1 d2 d3 d4 d5 x0 x1 x2 x3 y0 y1 y2 y3 b0 b1
     go_wp2
     go_roundw
     case rel=>exact ⟨k + 1,by omega,by go_num,he.trans hen⟩
     case measure=>simp [intOf]; omega
    ·go_wp2
     go_ret
     exact ⟨rfl,e0.trans he⟩

end Go.Proofs.YtdmipnnfooleladGreat

namespace Go.Proofs.YtdmipnnfooleladGreat
open Go.RowKit Go.Mk
set_option maxRecDepth 100000

theorem zgr {w : World} {B C : Nat → Prop} {b : Nat} {x : Obj} (h : Hid (∀ k,C k ↔ (B k ∨ w.heap.size ≤ k))) (n : Hid (¬ B b)) (hb : Hid (w.heap[b]? = some x)) : Hid (¬ C b):=fun q=>by
 rcases (h.out _).1 q with q | q
 ·exact n.out q
 ·have:=(Array.getElem?_eq_some_iff.1 hb.out).1
  omega
theorem small_sy {s : St} {v : Sv} {k : Nat} (h : Sy s v k) (hk : k ≤ 500) : Small s ∧ SmallV v:=by
 have h1:=h.wk.cells.1
 have h2:=h.undo
 have h3:=h.answers
 have h4:=h.past
 have h5:=h.box
 have h6:=h.plan
 unfold Small SmallV
 exact ⟨⟨by omega,by omega,by omega,by omega⟩,by omega,h.bytes,by omega⟩

end Go.Proofs.YtdmipnnfooleladGreat

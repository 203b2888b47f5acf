/- Texts of the proof, merged: D5d D5e N6a N6. -/
import Derived.Test.YtdmipnnfooleladKI
import Derived.Test.YtdmipnnfooleladKG
import Derived.Test.YtdmipnnfooleladKB
import Derived.Test.YtdmipnnfooleladKC

namespace Go.Proofs.Ytdmipnnfoolelad
open Go.RowKit Go.Mk

set_option maxRecDepth 100000 in
set_option maxHeartbeats 4000000 in
theorem rPlan_drop (v : Value) (xs : List Int) (a o n : Int) (w : World) (hv : Ints w v xs) (hx : Weak xs) (hc : wrongCl ⟨3,a,o,n⟩ = 0) (l : List (Int × Int)) (hL : ofCells xs (xs.getD 0 0).toNat = l) (D1 : List (Int × Int)) (D3 : Int) (hD : doR l ⟨3,a,o,n⟩ = (D1,⟨0,D3⟩)) (hat : at1 l a + 1 < l.length) (hDl : D1.length = l.length - 1) (q1 q2 : Int) (hq : D1.getD (at1 l a) (0,0) = (q1,q2)) (hP : planCl l ⟨3,a,o,n⟩ = [(1 + 2 * (at1 l a : Int),q1),(2 + 2 * (at1 l a : Int),q2),(0,(l.length : Int) - 1)]) :
  Calls Try.prog 57 #[v,.agg #[I 3,I a,I o,I n]] w fun e w'=>PlansR w.heap.size l ⟨3,a,o,n⟩ e w' ∧ Ext w w':=by
 obtain ⟨hl11,hx0,hx5,hok⟩:=id hx
 have hln : l.length = (xs.getD 0 0).toNat:=by rw [← hL,length_ofCells]
 have hl5 : l.length ≤ 5:=by omega
 rw [hL] at hok
 have hfind:=fun nm wx (hw : Ints wx v xs)=>refFind_any v xs nm wx hw hl11 hx0 hx5
 have hfa:=find_at1 xs a (xs.getD 0 0).toNat
 rw [hL,← hln] at hfa
 have hfo:=find_at1 xs o (xs.getD 0 0).toNat
 rw [hL,← hln] at hfo
 rw [← hln] at hfind
 have HL:=Lib.hid hL
 have HD:=Lib.hid hD
 have HX:=Lib.hid hx
 have HOK:=Lib.hid hok
 have HCW:=Lib.hid hc
 have HV:=Lib.hid hv
 clear hL hD hx hok hc hln hl11 hx0 hx5 hv
 have e0 : Ext w ((w.alloc (.cells #[I 3,I a,I o,I n] 33)).alloc (.cells #[I 0,I 0] 38)):=((Ext.refl w).alloc _).alloc _
 go_enter Try.func57,Try.ntmps57
 go_wp2_with fail
 refine (refOfW_any v xs _ (HV.out.ext e0) HX.out.c).mono ?_
 rintro e w1 ⟨h1,rfl,e1,hw1⟩
 rw [HL.out] at hw1
 obtain ⟨⟨d0,d1,d2,d3⟩,-⟩:=plan_boxes rfl rfl e1
 obtain ⟨ao,cap,rfl,hq1,hq2,-⟩:=hw1.form
 unfold maxLen at hq2
 have HW1:=Lib.hid hw1
 clear hw1
 go_wp2_with fail
 refine (wDo_any _ l 3 a o n w1 HW1.out HOK.out HCW.out).mono ?_
 rintro e w2 ⟨⟨u,rfl,hu,-⟩,e2⟩
 rw [HD.out] at hu ⊢
 simp only [] at hu
 obtain ⟨bo,cap2,rfl,hr1,hr2,hcells⟩:=hu.form
 unfold maxLen at hr2
 have HU:=Lib.hid hu
 have HCE:=Lib.hid hcells
 clear d0 d1 d2 d3 hu hcells
 have m2 : Ext w w2:=e0.trans (e1.trans e2)
 have HB : Hid (∀ wx,Ext (w2.alloc (.cells #[I 0,I D3] 38)) wx → ((wx.cell? ⟨w.heap.size,0,none⟩ = some (I 3) ∧ wx.cell? ⟨w.heap.size,1,none⟩ = some (I a) ∧ wx.cell? ⟨w.heap.size,2,none⟩ = some (I o) ∧ wx.cell? ⟨w.heap.size,3,none⟩ = some (I n)) ∧ wx.heap[w.heap.size + 1]? = some (.cells #[I 0,I 0] 38 (0,0))) ∧ wx.heap[w2.heap.size]? = some (.cells #[I 0,I D3] 38 (0,0))):=fun wx hx =>
  ⟨plan_boxes rfl rfl (e1.trans (e2.trans (((Ext.refl w2).alloc _).trans hx))),block_ext hx⟩
 obtain ⟨⟨⟨c0,c1,c2,c3⟩,rb⟩,sb⟩:=HB.out _ (Ext.refl _)
 obtain ⟨x0,x1,f0,f1⟩:=box_of rb (Ext.refl _)
 obtain ⟨y0,y1,-,-⟩:=box_of sb (Ext.refl _)
 have hvv : Ints (w2.alloc (.cells #[I 0,I D3] 38)) v xs:=HV.out.ext (m2.alloc _)
 have hsz : w.heap.size + 1 < w2.heap.size:=by
  have:=(Array.getElem?_eq_some_iff.1 (plan_boxes rfl rfl (e1.trans e2)).2).1
  exact this
 have hfA:=fun wx hw=>hfind a wx hw
 rw [hfa,if_pos (by omega)] at hfA
 have HP:=Lib.hid hP
 obtain ⟨p,hp⟩ : ∃ p : Nat,l.length = p + 1:=⟨l.length - 1,by omega⟩
 have hD1 : D1.length = p:=by omega
 obtain ⟨b,off,rfl,ce1,ce2⟩:=HCE.out (at1 l a) (by omega)
 rw [hq] at ce1 ce2
 simp only [] at ce1 ce2
 have de1:=((Ext.refl w2).alloc (.cells #[I 0,I D3] 38)).cell ce1
 have de2:=((Ext.refl w2).alloc (.cells #[I 0,I D3] 38)).cell ce2
 rw [hD1] at hr1 ⊢
 have HLP:=Lib.hid hp
 rw [hp] at hq1 ⊢
 have hap : at1 l a < p:=by omega
 have hp5 : p ≤ 4:=by omega
 generalize at1 l a = i at *
 have hpl : (i : Int) < (p : Int):=by omega
 have hi0 : (0 : Int) ≤ (i : Int):=by omega
 have hne : ((p : Int) == (p : Int) + 1) = false:=by simp; omega
 have hw1 : IntKind.i64.wrap (2 * (i : Int)) = 2 * i:=by rw [IntKind.wrap_i64]; omega
 have hw2 : IntKind.i64.wrap (2 + 2 * (i : Int)) = 2 + 2 * i:=by rw [IntKind.wrap_i64]; omega
 have hw3 : IntKind.i64.wrap (1 + 2 * (i : Int)) = 1 + 2 * i:=by rw [IntKind.wrap_i64]; omega
 clear hDl hP hfa hfo hfind HCE hat hD1 hp hl5 hq ce1 ce2
 go_wp2_with (go_at_call 67; refine Calls.same (hfA _ hvv) ?_)
 refine wp_region_mono [none,none,none,none,none,none,none,none,none,none,none,none,none,none,none,none,none,none,some (.inr fun v wx=>wx.ownsRow (w2.heap.size + 1) 72 2 v 2 (cells2 [(1 + 2 * (i : Int),q1),(2 + 2 * (i : Int),q2)])),none] (by kernel_rfl) (by kernel_rfl) ?_ ?_
 ·exact ⟨trivial,trivial,trivial,trivial,trivial,trivial,trivial,trivial,trivial,trivial,trivial,trivial,trivial,trivial,trivial,trivial,trivial,trivial,monoOwns _ _ _ _ _,trivial,trivial⟩
 iterate 7 (refine wpM_p (fun K hK=>?_); go_simp; refine hK _ ?_; clear hK K)
 refine wpM_q (I q1) rfl (fun w' hw'=>by have q0:=hw'.cell de1; go_simp) ?_
 iterate 8 (refine wpM_p (fun K hK=>?_); go_simp; refine hK _ ?_; clear hK K)
 refine wpM_q (I q2) rfl (fun w' hw'=>by have q0:=hw'.cell de2; go_simp) ?_
 iterate 1 (refine wpM_p (fun K hK=>?_); go_simp; refine hK _ ?_; clear hK K)
 refine wpM_l _ rfl (fun w' hw' _=>?_) (fun v84=>?_)
 ·unfold makes
  go_simp
  refine ⟨(Ext.refl _).alloc _,?_⟩
  have:=World.ownsRow_lit (base:=w2.heap.size + 1) (e:=72) (size:=2) w' #[I (1 + 2 * (i : Int)),I q1,I (2 + 2 * (i : Int)),I q2] 2 (by have:=hw'.size; simpa using this) (by decide) rfl
  simpa [cells2] using this
 iterate 1 (refine wpM_p (fun K hK=>?_); go_simp; refine hK _ ?_; clear hK K)
 refine wpM_nil ?_
 intro w6 he6 hF
 have ho6 : w6.ownsRow (w2.heap.size + 1) 72 2 v84 2 (cells2 [(1 + 2 * (i : Int),q1),(2 + 2 * (i : Int),q2)]):=hF 84
 clear hF de1 de2 hw1 hw2 hw3
 go_wp2_with (at_builtin; refine stop_at ?_)
 unfold Hid
 obtain ⟨i0,hi,hz0,hz1,hz2⟩:=info_parts Try.infoWrite2
 have hown:=ho6.alloc (.cells #[I 0,I p] 72)
 have hlit : Row (w6.alloc (.cells #[I 0,I p] 72)) 2 (.slice (some ⟨w6.heap.size,0,none⟩) 1 1) 1 (cells2 [(0,(p : Int))]):=by
  have:=writes_lit (w:=w6) 72 [(0,(p : Int))] #[I 0,I p] 1 rfl rfl (by decide)
  simpa [Writes] using this
 have hbase : w2.heap.size + 1 ≤ (w6.alloc (.cells #[I 0,I p] 72)).heap.size:=by have:=he6.size; simp at this ⊢; omega
 have exb:=he6.alloc (.cells #[I 0,I p] 72)
 refine wpList_append_row _ rfl (.tmp 132) (.tmp 136) 26 rfl (w2.heap.size + 1) 72 i0 (.agg #[.int .i64 0,.int .i64 0]) 2 16 Try.underlying26 hi hz0 hz1 hz2 rfl (by decide) _ 2 (cells2 [(1 + 2 * (i : Int),q1),(2 + 2 * (i : Int),q2)]) rfl hown _ rfl 1 _ hlit (cells2_one _) (by omega) (by decide) hbase ?_
 intro v5 w5 ho5 hg5
 have ex5 : Ext (w2.alloc (.cells #[I 0,I D3] 38)) w5:=Ext.grown exb hg5 (fun j hj=>by have:=(hown.lt j hj).1; simpa using this)
 have hh5 : Has (w2.heap.size + 1) w5 v5 [(1 + 2 * (i : Int),q1),(2 + 2 * (i : Int),q2),(0,(l.length : Int) - 1)]:=by
  have e : cells2 [(1 + 2 * (i : Int),q1),(2 + 2 * (i : Int),q2)] ++ cells2 [(0,(p : Int))] = cells2 [(1 + 2 * (i : Int),q1),(2 + 2 * (i : Int),q2),(0,(l.length : Int) - 1)]:=by rw [← cells2_append]; rw [HLP.out]; simp [cells2]
  rw [e] at ho5
  exact ⟨_,_,_,ho5,fun w2 h2=>writes_of_owns h2⟩
 obtain ⟨-,sb5⟩:=HB.out w5 ex5
 obtain ⟨s0,s1,-,-⟩:=box_of sb5 (Ext.refl _)
 clear ho5 hg5 hown hlit hi hz0 hz1 hz2 c0 c1 c2 c3 x0 x1 f0 f1 y0 y1 rb sb sb5 hbase exb
 go_wp2
 refine wp_region_mono_tail 3 [none,none,none] (by kernel_rfl) (by kernel_rfl) ?_ ?_
 ·exact ⟨trivial,trivial,trivial,trivial⟩
 iterate 1 (refine wpM_p (fun K hK=>?_); go_simp; refine hK _ ?_; clear hK K)
 refine wpM_q (.agg #[I 0,I D3]) rfl (fun w' hw'=>by have q0:=hw'.cell s0; have q1:=hw'.cell s1; go_simp) ?_
 iterate 1 (refine wpM_p (fun K hK=>?_); go_simp; refine hK _ ?_; clear hK K)
 refine wpM_nil ?_
 intro w4 he4' _
 have he4:=ex5.trans he4'
 have hr:=hh5.ext he4'
 clear s0 s1
 obtain ⟨⟨-,rb4⟩,sb4⟩:=HB.out w4 he4
 obtain ⟨x0,x1,f0,f1⟩:=box_of rb4 (Ext.refl _)
 go_wp2
 obtain ⟨z0,z1,-,-⟩:=box_of (set2d rb4 (I 0) (I D3)) (Ext.refl _)
 clear x0 x1 f0 f1
 refine bodyPost_ret (by simp [results,Try.results57,go_sem,z0,z1]; rfl) rfl ?_
 exact plan_end HD.out hsz ((m2.alloc _).trans he4) (by rw [HP.out]; exact hr)


set_option maxRecDepth 100000 in
set_option maxHeartbeats 4000000 in
theorem rPlan_swap (v : Value) (xs : List Int) (a o n : Int) (w : World) (hv : Ints w v xs) (hx : Weak xs) (hc : wrongCl ⟨6,a,o,n⟩ = 0) (l : List (Int × Int)) (hL : ofCells xs (xs.getD 0 0).toNat = l) (D1 : List (Int × Int)) (D3 : Int) (hD : doR l ⟨6,a,o,n⟩ = (D1,⟨0,D3⟩)) (hat : at1 l a < l.length) (hot : at1 l o < l.length) (hDl : D1.length = l.length) (m1 m2' : Int) (hm1 : (D1.getD (at1 l a) (0,0)).2 = m1) (hm2 : (D1.getD (at1 l o) (0,0)).2 = m2') (hP : planCl l ⟨6,a,o,n⟩ = [(2 + 2 * (at1 l a : Int),m1),(2 + 2 * (at1 l o : Int),m2')]) :
  Calls Try.prog 57 #[v,.agg #[I 6,I a,I o,I n]] w fun e w'=>PlansR w.heap.size l ⟨6,a,o,n⟩ e w' ∧ Ext w w':=by
 obtain ⟨hl11,hx0,hx5,hok⟩:=id hx
 have hln : l.length = (xs.getD 0 0).toNat:=by rw [← hL,length_ofCells]
 have hl5 : l.length ≤ 5:=by omega
 rw [hL] at hok
 have hfind:=fun nm wx (hw : Ints wx v xs)=>refFind_any v xs nm wx hw hl11 hx0 hx5
 have hfa:=find_at1 xs a (xs.getD 0 0).toNat
 rw [hL,← hln] at hfa
 have hfo:=find_at1 xs o (xs.getD 0 0).toNat
 rw [hL,← hln] at hfo
 rw [← hln] at hfind
 have HL:=Lib.hid hL
 have HD:=Lib.hid hD
 have HX:=Lib.hid hx
 have HOK:=Lib.hid hok
 have HCW:=Lib.hid hc
 have HV:=Lib.hid hv
 clear hL hD hx hok hc hln hl11 hx0 hx5 hv
 have e0 : Ext w ((w.alloc (.cells #[I 6,I a,I o,I n] 33)).alloc (.cells #[I 0,I 0] 38)):=((Ext.refl w).alloc _).alloc _
 go_enter Try.func57,Try.ntmps57
 go_wp2_with fail
 refine (refOfW_any v xs _ (HV.out.ext e0) HX.out.c).mono ?_
 rintro e w1 ⟨h1,rfl,e1,hw1⟩
 rw [HL.out] at hw1
 obtain ⟨⟨d0,d1,d2,d3⟩,-⟩:=plan_boxes rfl rfl e1
 obtain ⟨ao,cap,rfl,hq1,hq2,-⟩:=hw1.form
 unfold maxLen at hq2
 have HW1:=Lib.hid hw1
 clear hw1
 go_wp2_with fail
 refine (wDo_any _ l 6 a o n w1 HW1.out HOK.out HCW.out).mono ?_
 rintro e w2 ⟨⟨u,rfl,hu,-⟩,e2⟩
 rw [HD.out] at hu ⊢
 simp only [] at hu
 obtain ⟨bo,cap2,rfl,hr1,hr2,hcells⟩:=hu.form
 unfold maxLen at hr2
 have HU:=Lib.hid hu
 have HCE:=Lib.hid hcells
 clear d0 d1 d2 d3 hu hcells
 have m2 : Ext w w2:=e0.trans (e1.trans e2)
 have HB : Hid (∀ wx,Ext (w2.alloc (.cells #[I 0,I D3] 38)) wx → ((wx.cell? ⟨w.heap.size,0,none⟩ = some (I 6) ∧ wx.cell? ⟨w.heap.size,1,none⟩ = some (I a) ∧ wx.cell? ⟨w.heap.size,2,none⟩ = some (I o) ∧ wx.cell? ⟨w.heap.size,3,none⟩ = some (I n)) ∧ wx.heap[w.heap.size + 1]? = some (.cells #[I 0,I 0] 38 (0,0))) ∧ wx.heap[w2.heap.size]? = some (.cells #[I 0,I D3] 38 (0,0))):=fun wx hx =>
  ⟨plan_boxes rfl rfl (e1.trans (e2.trans (((Ext.refl w2).alloc _).trans hx))),block_ext hx⟩
 obtain ⟨⟨⟨c0,c1,c2,c3⟩,rb⟩,sb⟩:=HB.out _ (Ext.refl _)
 obtain ⟨x0,x1,f0,f1⟩:=box_of rb (Ext.refl _)
 obtain ⟨y0,y1,-,-⟩:=box_of sb (Ext.refl _)
 have hvv : Ints (w2.alloc (.cells #[I 0,I D3] 38)) v xs:=HV.out.ext (m2.alloc _)
 have hsz : w.heap.size + 1 < w2.heap.size:=by
  have:=(Array.getElem?_eq_some_iff.1 (plan_boxes rfl rfl (e1.trans e2)).2).1
  exact this
 have hfA:=fun wx hw=>hfind a wx hw
 rw [hfa,if_pos hat] at hfA
 have hfO:=fun wx hw=>hfind o wx hw
 rw [hfo,if_pos hot] at hfO
 have HP:=Lib.hid hP
 obtain ⟨b,off,rfl,-,ce1⟩:=HCE.out (at1 l a) (by omega)
 obtain ⟨b',off',ee,-,ce2⟩:=HCE.out (at1 l o) (by omega)
 simp only [Option.some.injEq,Addr.mk.injEq,and_true] at ee
 obtain ⟨rfl,rfl⟩:=ee
 rw [hm1] at ce1
 rw [hm2] at ce2
 have de1:=((Ext.refl w2).alloc (.cells #[I 0,I D3] 38)).cell ce1
 have de2:=((Ext.refl w2).alloc (.cells #[I 0,I D3] 38)).cell ce2
 rw [hDl]
 generalize at1 l a = i at *
 generalize at1 l o = j at *
 have hi1 : (i : Int) < (l.length : Int):=by omega
 have hj1 : (j : Int) < (l.length : Int):=by omega
 have hi0 : (0 : Int) ≤ (i : Int):=by omega
 have hj0 : (0 : Int) ≤ (j : Int):=by omega
 have hv1 : IntKind.i64.wrap (2 * (j : Int)) = 2 * j:=by rw [IntKind.wrap_i64]; omega
 have hv2 : IntKind.i64.wrap (2 + 2 * (j : Int)) = 2 + 2 * j:=by rw [IntKind.wrap_i64]; omega
 have hw1 : IntKind.i64.wrap (2 * (i : Int)) = 2 * i:=by rw [IntKind.wrap_i64]; omega
 have hw2 : IntKind.i64.wrap (2 + 2 * (i : Int)) = 2 + 2 * i:=by rw [IntKind.wrap_i64]; omega
 have hw3 : IntKind.i64.wrap (1 + 2 * (i : Int)) = 1 + 2 * i:=by rw [IntKind.wrap_i64]; omega
 clear hDl hP hm1 hm2 hfa hfo hfind HCE ce1 ce2
 go_wp2_with (go_at_call 67; first
  | (have q2:=hdone; clear q2; refine Calls.same (hfO _ hvv) ?_)
  | (have hdone : True:=trivial; refine Calls.same (hfA _ hvv) ?_))
 refine wp_region_mono_tail 21 [none,none,none,none,none,none,none,none,none,none,none,none,none,none,none,none,none,none,some (.inr fun v wx=>Has (w2.heap.size + 1) wx v [(2 + 2 * (i : Int),m1),(2 + 2 * (j : Int),m2')]),none,none] (by kernel_rfl) (by kernel_rfl) ?_ ?_
 ·exact ⟨trivial,trivial,trivial,trivial,trivial,trivial,trivial,trivial,trivial,trivial,trivial,trivial,trivial,trivial,trivial,trivial,trivial,trivial,monoHas _ _,trivial,trivial,trivial⟩
 iterate 7 (refine wpM_p (fun K hK=>?_); go_simp; refine hK _ ?_; clear hK K)
 refine wpM_q (I m1) rfl (fun w' hw'=>by have q0:=hw'.cell de1; go_simp) ?_
 iterate 8 (refine wpM_p (fun K hK=>?_); go_simp; refine hK _ ?_; clear hK K)
 refine wpM_q (I m2') rfl (fun w' hw'=>by have q0:=hw'.cell de2; go_simp) ?_
 iterate 1 (refine wpM_p (fun K hK=>?_); go_simp; refine hK _ ?_; clear hK K)
 refine wpM_l _ rfl (fun w' hw' _=>?_) (fun v54=>?_)
 ·unfold makes
  go_simp
  exact ⟨(Ext.refl _).alloc _,has_lit [(2 + 2 * (i : Int),m1),(2 + 2 * (j : Int),m2')] _ 2 rfl rfl (by decide) _ (by have:=hw'.size; simpa using this)⟩
 refine wpM_q (.agg #[I 0,I D3]) rfl (fun w' hw'=>by have q0:=hw'.cell y0; have q1:=hw'.cell y1; go_simp) ?_
 iterate 1 (refine wpM_p (fun K hK=>?_); go_simp; refine hK _ ?_; clear hK K)
 refine wpM_nil ?_
 intro w4 he4 hF
 have hr : Has (w2.heap.size + 1) w4 v54 [(2 + 2 * (i : Int),m1),(2 + 2 * (j : Int),m2')]:=hF 54
 clear c0 c1 c2 c3 x0 x1 f0 f1 y0 y1 rb sb hF de1 de2 hw1 hw2 hw3 hv1 hv2
 obtain ⟨⟨-,rb4⟩,sb4⟩:=HB.out w4 he4
 obtain ⟨x0,x1,f0,f1⟩:=box_of rb4 (Ext.refl _)
 go_wp2
 obtain ⟨z0,z1,-,-⟩:=box_of (set2d rb4 (I 0) (I D3)) (Ext.refl _)
 clear x0 x1 f0 f1
 refine bodyPost_ret (by simp [results,Try.results57,go_sem,z0,z1]; rfl) rfl ?_
 exact plan_end HD.out hsz ((m2.alloc _).trans he4) (by rw [HP.out]; exact hr)

end Go.Proofs.Ytdmipnnfoolelad

namespace Go.Proofs.Ytdmipnnfoolelad
open Go.RowKit Go.Mk

theorem plan_ok {l : List (Int × Int)} {c : Cl} (h : (doCl l c).2.err = 0) : planCl l c = planX l c:=by
 unfold planCl
 rw [if_neg (by simp [h])]

theorem rPlanW_any (v : Value) (xs : List Int) (k a o n : Int) (w : World) (hv : Ints w v xs) (hx : Weak xs) (hc : wrongCl ⟨k,a,o,n⟩ = 0) :
  Calls Try.prog 57 #[v,.agg #[I k,I a,I o,I n]] w fun e w'=>PlansR w.heap.size (ofCells xs (xs.getD 0 0).toNat) ⟨k,a,o,n⟩ e w' ∧ Ext w w':=by
 by_cases he : (doCl (ofCells xs (xs.getD 0 0).toNat) ⟨k,a,o,n⟩).2.err ≠ 0
 ·exact rPlan_err v xs k a o n w hv hx hc he
 have he0 : (doCl (ofCells xs (xs.getD 0 0).toNat) ⟨k,a,o,n⟩).2.err = 0:=by simpa using he
 have hP:=plan_ok he0
 clear he
 generalize hL : ofCells xs (xs.getD 0 0).toNat = l at *
 obtain ⟨hk,_⟩:=wrongCl_zero hc
 rcases hk with rfl | rfl | rfl | rfl | rfl | rfl
 ·rw [doCl_put] at he0
  by_cases ha : at1 l a < l.length
  ·have hD : doR l ⟨1,a,o,n⟩ = (setR l a n,⟨0,num l (at1 l a)⟩):=by rw [doR_put,if_pos ha]
   refine rPlan_put v xs a o n w hv hx hc l hL _ _ hD ha (length_setR _ _ _) n ?_ ?_
   ·rw [getD_setR _ _ _ _ ha,if_pos (at1_hit ha)]
   ·rw [hP]; simp [planX,ha]
  ·by_cases h5 : 5 ≤ l.length
   ·rw [if_neg ha,if_pos h5] at he0
    exact absurd he0 (by simp)
   ·have hD : doR l ⟨1,a,o,n⟩ = (l ++ [(a,n)],⟨0,0⟩):=by rw [doR_put,if_neg ha,if_neg h5]
    refine rPlan_new v xs a o n w hv hx hc l hL _ _ hD ha (by omega) (by simp) ?_
    rw [hP]; simp [planX,ha]
 ·rw [doCl_get] at he0
  by_cases ha : at1 l a < l.length
  ·have hD : doR l ⟨2,a,o,n⟩ = (l,⟨0,num l (at1 l a)⟩):=by rw [doR_get,if_neg (by simpa using ha)]
   exact rPlan_get v xs a o n w hv hx hc l hL _ _ hD rfl (by rw [hP]; simp [planX])
  ·rw [if_pos ha] at he0
   exact absurd he0 (by simp)
 ·rw [doCl_drop] at he0
  by_cases ha : at1 l a < l.length
  ·have hD : doR l ⟨3,a,o,n⟩ = (dropR l a,⟨0,num l (at1 l a)⟩):=by rw [doR_drop,if_neg (by simpa using ha)]
   have hlen : (dropR l a).length = l.length - 1:=length_dropR l a
   by_cases hm : at1 l a + 1 < l.length
   ·refine rPlan_drop v xs a o n w hv hx hc l hL _ _ hD hm hlen (l.getD (l.length - 1) (0,0)).1 (l.getD (l.length - 1) (0,0)).2 (by rw [getD_dropR _ _ _ (by omega),if_pos (at1_hit ha)]) ?_
    rw [hP]; simp [planX,hm]
   ·refine rPlan_dropLast v xs a o n w hv hx hc l hL _ _ hD (by omega) hlen ?_
    rw [hP]; simp [planX,hm]
  ·rw [if_pos ha] at he0
   exact absurd he0 (by simp)
 ·rw [doCl_add] at he0
  by_cases ha : at1 l a < l.length
  ·rw [if_neg (by simpa using ha)] at he0
   by_cases hr : -1073741824 ≤ num l (at1 l a) + n ∧ num l (at1 l a) + n ≤ 1073741824
   ·have hD : doR l ⟨4,a,o,n⟩ = (setR l a (num l (at1 l a) + n),⟨0,num l (at1 l a) + n⟩):=by rw [doR_add,if_neg (by simpa using ha),if_neg (by simpa using hr)]
    refine rPlan_add v xs a o n w hv hx hc l hL _ _ hD ha (length_setR _ _ _) (num l (at1 l a) + n) ?_ ?_
    ·rw [getD_setR _ _ _ _ ha,if_pos (at1_hit ha)]
    ·rw [hP]; simp [planX]
   ·rw [if_pos hr] at he0
    exact absurd he0 (by simp)
  ·rw [if_pos ha] at he0
   exact absurd he0 (by simp)
 ·exact rPlan_count v xs a o n w hv hx hc l hL _ _ (doR_count l a o n) rfl (by rw [hP]; simp [planX])
 ·rw [doCl_swap'] at he0
  by_cases ha : at1 l a < l.length
  ·rw [if_neg (by simpa using ha)] at he0
   by_cases hb : at1 l o < l.length
   ·have hD : doR l ⟨6,a,o,n⟩ = (setR (setR l a (num l (at1 l o))) o (num l (at1 l a)),⟨0,num l (at1 l o)⟩):=by rw [doR_swap',if_neg (by simpa using ha),if_neg (by simpa using hb)]
    refine rPlan_swap v xs a o n w hv hx hc l hL _ _ hD ha hb (by rw [length_setR,length_setR]) (num l (at1 l o)) (num l (at1 l a)) ?_ ?_ ?_
    ·rw [getD_setR _ _ _ _ (by rw [length_setR]; exact ha),getD_setR _ _ _ _ ha,if_pos (at1_hit ha)]
     by_cases he : (l.getD (at1 l a) (0,0)).1 = o
     ·rw [if_pos he]
      rw [at1_hit ha] at he
      rw [he]
     ·rw [if_neg he]
    ·rw [getD_setR _ _ _ _ (by rw [length_setR]; exact hb),getD_setR _ _ _ _ hb]
     by_cases he : (l.getD (at1 l o) (0,0)).1 = a
     ·rw [if_pos he,if_pos (at1_hit hb)]
     ·rw [if_neg he,if_pos (at1_hit hb)]
    ·rw [hP]; simp [planX]
   ·rw [if_pos hb] at he0
    exact absurd he0 (by simp)
  ·rw [if_pos ha] at he0
   exact absurd he0 (by simp)

end Go.Proofs.Ytdmipnnfoolelad

namespace Go.Proofs.Ytdmipnnfoolelad
open Go.RowKit Go.Mk

/-- A store, a server, bytes, and what is wrong. -/
def Tup4 (s : St) (v : Sv) (b : List UInt8) (e : Int) (r : Value) (w : World) : Prop:=∃ (cs ds : List Value) (bv : Value),r = .tuple #[.agg cs.toArray,.agg ds.toArray,bv,I e] ∧ elSt w cs s ∧ elSv w ds v ∧ Bytes w bv b
theorem rd_tup4 {s : St} {v : Sv} {b : List UInt8} {e : Int} {r : Value} {A : Nat → Prop} {w : World} (h : Rd A (Tup4 s v b e r) w) : ∃ (cs ds : List Value) (bv : Value),r = .tuple #[.agg cs.toArray,.agg ds.toArray,bv,I e] ∧ Rd A (fun w=>elSt w cs s) w ∧ Rd A (fun w=>elSv w ds v) w ∧ Rd A (fun w=>Bytes w bv b) w:=by
 obtain ⟨cs,ds,bv,e1,_⟩:=h.out
 have key : ∀ w',Tup4 s v b e r w' → elSt w' cs s ∧ elSv w' ds v ∧ Bytes w' bv b:=fun w' ⟨cs2,ds2,bv2,e2,h3⟩=>by
  rw [e1] at e2
  have : cs = cs2 ∧ ds = ds2 ∧ bv = bv2:=by simpa using e2
  obtain ⟨rfl,rfl,rfl⟩:=this
  exact h3
 exact ⟨cs,ds,bv,e1,h.imp fun w' hw=>(key w' hw).1,h.imp fun w' hw=>(key w' hw).2.1,h.imp fun w' hw=>(key w' hw).2.2⟩
theorem tup4_rd {s : St} {v : Sv} {b : List UInt8} {e : Int} {cs ds : List Value} {bv : Value} {A : Nat → Prop} {w : World} (h : Rd A (fun w=>elSt w cs s) w) (h2 : Rd A (fun w=>elSv w ds v) w) (h3 : Rd A (fun w=>Bytes w bv b) w) : Rd A (Tup4 s v b e (.tuple #[.agg cs.toArray,.agg ds.toArray,bv,I e])) w :=
 (h.and (h2.and h3)).imp fun _ h=>⟨cs,ds,bv,rfl,h.1,h.2.1,h.2.2⟩

/-- The first of a plan, and the rest. -/
theorem plan_first {A : Nat → Prop} {w : World} {v : Value} {p : Int × Int} {l : List (Int × Int)} (h : Rd A (fun w=>Writes w v (p :: l)) w) : ∃ lb lo lc,v = .slice (some ⟨lb,lo,none⟩) (l.length + 1) lc ∧ l.length + 1 ≤ lc ∧ lc ≤ maxLen ∧ Rd A (fun w=>w.cell? ⟨lb,lo,none⟩ = some (I p.1) ∧ w.cell? ⟨lb,lo + 1,none⟩ = some (I p.2)) w ∧ Rd A (fun w=>Writes w (.slice (some ⟨lb,lo + 2,none⟩) l.length (lc - 1)) l) w:=by
 obtain ⟨hl,ao,lc,e,h3,h4,h0,h5⟩:=h.out
 obtain ⟨lb,lo,rfl,-⟩:=h5 0 (I p.1) rfl
 have key : ∀ w',Writes w' v (p :: l) → ∀ j u,(cells2 (p :: l))[j]? = some u → w'.cell? ⟨lb,lo + j,none⟩ = some u:=fun w' hw j u hj=>by
  obtain ⟨_,ao',lc',e',_,_,_,h5'⟩:=hw
  obtain ⟨b,o,ea,hc⟩:=h5' j u hj
  rw [e,ea] at e'
  simp only [Value.slice.injEq,Option.some.injEq,Addr.mk.injEq,and_true] at e'
  obtain ⟨⟨rfl,rfl⟩,_⟩:=e'
  exact hc
 refine ⟨lb,lo,lc,e,by simpa using h3,h4,h.imp fun w' hw=>⟨key w' hw 0 _ rfl,key w' hw 1 _ rfl⟩,h.imp fun w' hw=>?_⟩
 refine ⟨length_cells2 l,_,_,rfl,by simp at h3; omega,by omega,(fun h=>by cases h),fun j u hj=>⟨lb,lo + 2,rfl,?_⟩⟩
 have:=key w' hw (j + 2) u (by simpa [cells2] using hj)
 rw [show lo + 2 + j = lo + (j + 2) by omega]
 exact this
theorem writes_empty (w : World) (b off cap : Nat) (hc : cap ≤ maxLen) : Writes w (.slice (some ⟨b,off,none⟩) 0 cap) []:=row_empty w b off cap hc

theorem read_right {b : List UInt8} (h : (readRq b).2 = 0) : wrongRq (readRq b).1 = 0:=by
 unfold readRq at *
 split at h
 ·exact absurd h (by decide)
 ·split at h
  ·rename_i h2 h3; exact absurd h h3
  ·rename_i h2 h3
   rw [if_neg h2,if_neg h3]
   exact Classical.byContradiction h3
theorem Has.rd {base : Nat} {w : World} {u : Value} {l : List (Int × Int)} (h : Has base w u l) : Rd (fun k=>base ≤ k) (fun w=>Writes w u l) w:=by
 obtain ⟨x,m,lo,h1,h2⟩:=h
 intro w2 hw
 refine h2 w2 ⟨h1.1,?_⟩
 rcases h1.2 with h | ⟨g,cap,cur,e,hb,hg,hr⟩
 ·exact .inl h
 ·exact .inr ⟨g,cap,cur,e,hb,by rw [hw g hb (Array.getElem?_eq_some_iff.1 hg).1]; exact hg,hr⟩

end Go.Proofs.Ytdmipnnfoolelad

namespace Go.Proofs.Ytdmipnnfoolelad
open Go.RowKit Go.Mk

set_option maxRecDepth 100000 in
set_option maxHeartbeats 2000000 in
theorem refServe_wait (sc : List Int) (su : List (Int × Int)) (sa : List An) (sp : List Rq) (gen : Int) (nc nt nk na no nn : Int) (se sn : Int) (pl : List (Int × Int)) (c u a p box plan : Value) (w : World) (A : Nat → Prop) (hs : Rd A (fun w=>elSt w [c,u,a,p] ⟨sc,su,sa,sp⟩) w) (hb : Rd A (fun w=>RowOf 1 elBs w box []) w) (hp : Rd A (fun w=>Writes w plan pl) w) :
  Keeps Try.prog 36 #[.agg #[c,u,a,p],.agg #[I gen,box,.bool false,I nc,I nt,I nk,I na,I no,I nn,plan,I se,I sn]] w A (fun r w'=>Tup4 (serveM ⟨sc,su,sa,sp⟩ ⟨gen,[],false,⟨nc,nt,⟨nk,na,no,nn⟩⟩,pl,⟨se,sn⟩⟩).1 (serveM ⟨sc,su,sa,sp⟩ ⟨gen,[],false,⟨nc,nt,⟨nk,na,no,nn⟩⟩,pl,⟨se,sn⟩⟩).2.1 (serveM ⟨sc,su,sa,sp⟩ ⟨gen,[],false,⟨nc,nt,⟨nk,na,no,nn⟩⟩,pl,⟨se,sn⟩⟩).2.2.1 (serveM ⟨sc,su,sa,sp⟩ ⟨gen,[],false,⟨nc,nt,⟨nk,na,no,nn⟩⟩,pl,⟨se,sn⟩⟩).2.2.2 r w'):=by
 unfold Keeps
 obtain ⟨_,_,_,_,e,s1,s2,s3,s4⟩:=rd_st hs
 simp only [List.cons.injEq,and_true] at e
 obtain ⟨rfl,rfl,rfl,rfl⟩:=e
 clear hs
 obtain ⟨ca,cc,rfl⟩:=row_slice s1.out
 obtain ⟨ua,uc,rfl⟩:=row_slice s2.out
 obtain ⟨aa,ac,rfl⟩:=rowOf_slice s3.out
 obtain ⟨pa,pc,rfl⟩:=rowOf_slice s4.out
 simp only [] at *
 have EW:=Lib.hid (Ext.refl w)
 obtain ⟨B,hB⟩:=away A w.heap.size 4
 have HK:=Lib.hid hB
 clear hB
 have S1:=Lib.hid (s1.widen HK.out.1)
 have S2:=Lib.hid (s2.widen HK.out.1)
 have S3:=Lib.hid (s3.widen HK.out.1)
 have S4:=Lib.hid (s4.widen HK.out.1)
 have HB:=Lib.hid (hb.widen HK.out.1)
 have HP:=Lib.hid (hp.widen HK.out.1)
 clear s1 s2 s3 s4 hb hp
 obtain ⟨xa,xc,rfl⟩:=rowOf_slice HB.out.out
 obtain ⟨la,lc,rfl⟩:=row_slice HP.out.out
 have hX : serveM ⟨sc,su,sa,sp⟩ ⟨gen,[],false,⟨nc,nt,⟨nk,na,no,nn⟩⟩,pl,⟨se,sn⟩⟩ = (⟨sc,su,sa,sp⟩,⟨gen,[],false,⟨nc,nt,⟨nk,na,no,nn⟩⟩,pl,⟨se,sn⟩⟩,[],12):=rfl
 rw [hX]
 clear hX
 go_enter Try.func36,Try.ntmps36
 go_wp2_with ((with_reducible refine zst (L:=[43,40,30,67]) ?_ ?_); exact rfl)
 unfold Hid
 refine wpList_boxB rfl 30 (.tmp 0) rfl #[.slice ca sc.length cc,.slice ua su.length uc,.slice aa sa.length ac,.slice pa sp.length pc] rfl (fun b0 w1_ M1=>?_)
 have B_b0:=zmb M1
 replace S1:=zme M1 S1
 replace S2:=zme M1 S2
 replace S3:=zme M1 S3
 replace S4:=zme M1 S4
 replace HB:=zme M1 HB
 replace HP:=zme M1 HP
 replace EW:=zet EW M1
 go_wp2_with ((with_reducible refine zst (L:=[43,40,30,67]) ?_ ?_); exact rfl)
 unfold Hid
 refine wpList_boxB rfl 40 (.tmp 1) rfl #[I gen,.slice xa 0 xc,.bool false,I nc,I nt,I nk,I na,I no,I nn,.slice la pl.length lc,I se,I sn] rfl (fun b1 w2_ M2=>?_)
 have D_b0_b1:=zld B_b0 M2
 replace B_b0:=zmo M2 B_b0
 have B_b1:=zmb M2
 replace S1:=zme M2 S1
 replace S2:=zme M2 S2
 replace S3:=zme M2 S3
 replace S4:=zme M2 S4
 replace HB:=zme M2 HB
 replace HP:=zme M2 HP
 replace EW:=zet EW M2
 go_wp2_with ((with_reducible refine zst (L:=[43,40,30,67]) ?_ ?_); exact rfl)
 unfold Hid
 refine wpList_allocB rfl 30 #[.slice none 0 0,.slice none 0 0,.slice none 0 0,.slice none 0 0] (by kernel_rfl) (fun b2 w3_ M3=>?_)
 have D_b0_b2:=zld B_b0 M3
 have D_b1_b2:=zld B_b1 M3
 replace B_b0:=zmo M3 B_b0
 replace B_b1:=zmo M3 B_b1
 have B_b2:=zmb M3
 replace S1:=zme M3 S1
 replace S2:=zme M3 S2
 replace S3:=zme M3 S3
 replace S4:=zme M3 S4
 replace HB:=zme M3 HB
 replace HP:=zme M3 HP
 replace EW:=zet EW M3
 go_wp2_with ((with_reducible refine zst (L:=[43,40,30,67]) ?_ ?_); exact rfl)
 unfold Hid
 refine wpList_allocB rfl 40 #[I 0,.slice none 0 0,.bool false,I 0,I 0,I 0,I 0,I 0,I 0,.slice none 0 0,I 0,I 0] (by kernel_rfl) (fun b3 w4_ M4=>?_)
 have D_b0_b3:=zld B_b0 M4
 have D_b1_b3:=zld B_b1 M4
 have D_b2_b3:=zld B_b2 M4
 replace B_b0:=zmo M4 B_b0
 replace B_b1:=zmo M4 B_b1
 replace B_b2:=zmo M4 B_b2
 have B_b3:=zmb M4
 replace S1:=zme M4 S1
 replace S2:=zme M4 S2
 replace S3:=zme M4 S3
 replace S4:=zme M4 S4
 replace HB:=zme M4 HB
 replace HP:=zme M4 HP
 replace EW:=zet EW M4
 have A_b0 : Hid (b0 = w.heap.size + 0):=by unfold Hid; have q0:=M1.out.at_; have r0:=M1.out.size; omega
 have N_b0:=znb HK A_b0 (by decide)
 have O_b0:=zob A_b0
 have A_b1 : Hid (b1 = w.heap.size + 1):=by unfold Hid; have q0:=M1.out.at_; have r0:=M1.out.size; have q1:=M2.out.at_; have r1:=M2.out.size; omega
 have N_b1:=znb HK A_b1 (by decide)
 have O_b1:=zob A_b1
 have A_b2 : Hid (b2 = w.heap.size + 2):=by unfold Hid; have q0:=M1.out.at_; have r0:=M1.out.size; have q1:=M2.out.at_; have r1:=M2.out.size; have q2:=M3.out.at_; have r2:=M3.out.size; omega
 have N_b2:=znb HK A_b2 (by decide)
 have O_b2:=zob A_b2
 have A_b3 : Hid (b3 = w.heap.size + 3):=by unfold Hid; have q0:=M1.out.at_; have r0:=M1.out.size; have q1:=M2.out.at_; have r1:=M2.out.size; have q2:=M3.out.at_; have r2:=M3.out.size; have q3:=M4.out.at_; have r3:=M4.out.size; omega
 have N_b3:=znb HK A_b3 (by decide)
 have O_b3:=zob A_b3
 have c2:=cell_of (i:=2) B_b1.out rfl
 have c1:=cell_of (i:=1) B_b1.out rfl
 go_wp2_with fail
 clear c2 c1
 refine held_drew (S:=fun w'=>w'.heap[b0]? = some (.cells #[.slice ca sc.length cc,.slice ua su.length uc,.slice aa sa.length ac,.slice pa sp.length pc] 30 (0,0)) ∧ w'.heap[b1]? = some (.cells #[I gen,.slice xa 0 xc,.bool false,I nc,I nt,I nk,I na,I no,I nn,.slice la pl.length lc,I se,I sn] 40 (0,0))) (by kernel_rfl) (fun wd ed _=>?_)
 replace B_b0:=zbx B_b0 ed
 replace B_b1:=zbx B_b1 ed
 replace B_b2:=zbx B_b2 ed
 replace B_b3:=zbx B_b3 ed
 replace S1:=zrx S1 ed
 replace S2:=zrx S2 ed
 replace S3:=zrx S3 ed
 replace S4:=zrx S4 ed
 replace HB:=zrx HB ed
 replace HP:=zrx HP ed
 replace EW:=Lib.hid (EW.out.trans ed)
 have HSS : Hid (wd.heap[b0]? = some (.cells #[.slice ca sc.length cc,.slice ua su.length uc,.slice aa sa.length ac,.slice pa sp.length pc] 30 (0,0)) ∧ wd.heap[b1]? = some (.cells #[I gen,.slice xa 0 xc,.bool false,I nc,I nt,I nk,I na,I no,I nn,.slice la pl.length lc,I se,I sn] 40 (0,0))):=⟨B_b0.out,B_b1.out⟩
 refine held_loadW 0 rfl (by kernel_rfl) (by kernel_rfl) (by kernel_rfl) (fun _ _ _ _ h=>h) rfl 30 (.tmp 2) rfl b0 rfl (fun w' hS=>hS.1) Try.underlying30 (by kernel_rfl) HSS ?_
 refine held_norm (fun K hK=>?_); go_simp; refine hK _ ?_; clear hK K
 refine held_loadW 1 rfl (by kernel_rfl) (by kernel_rfl) (by kernel_rfl) (fun _ _ _ _ h=>h) rfl 40 (.tmp 3) rfl b1 rfl (fun w' hS=>hS.2) Try.underlying40 (by kernel_rfl) HSS ?_
 refine held_norm (fun K hK=>?_); go_simp; refine hK _ ?_; clear hK K
 refine held_storeW 2 (by kernel_rfl) rfl rfl 30 (.tmp 4) (.tmp 61) rfl b2 rfl [.slice ca sc.length cc,.slice ua su.length uc,.slice aa sa.length ac,.slice pa sp.length pc] (rfl) B_b2 rfl (by kernel_rfl) rfl (fun w5_ M5=>⟨?_,?_⟩)
 ·exact ⟨M5.out.old B_b0.out (Nat.ne_of_lt D_b0_b2.out),M5.out.old B_b1.out (Nat.ne_of_lt D_b1_b2.out)⟩
 replace B_b0:=zwl M5 B_b0 D_b0_b2
 replace B_b1:=zwl M5 B_b1 D_b1_b2
 replace B_b2:=zwb M5
 replace B_b3:=zwg M5 B_b3 D_b2_b3
 replace S1:=zwr M5 S1 N_b2
 replace S2:=zwr M5 S2 N_b2
 replace S3:=zwr M5 S3 N_b2
 replace S4:=zwr M5 S4 N_b2
 replace HB:=zwr M5 HB N_b2
 replace HP:=zwr M5 HP N_b2
 replace EW:=zwe M5 EW O_b2
 clear HSS
 have HSS : Hid (w5_.heap[b0]? = some (.cells #[.slice ca sc.length cc,.slice ua su.length uc,.slice aa sa.length ac,.slice pa sp.length pc] 30 (0,0)) ∧ w5_.heap[b1]? = some (.cells #[I gen,.slice xa 0 xc,.bool false,I nc,I nt,I nk,I na,I no,I nn,.slice la pl.length lc,I se,I sn] 40 (0,0))):=⟨B_b0.out,B_b1.out⟩
 refine held_norm (fun K hK=>?_); go_simp; refine hK _ ?_; clear hK K
 refine held_storeW 3 (by kernel_rfl) rfl rfl 40 (.tmp 5) (.tmp 62) rfl b3 rfl [I gen,.slice xa 0 xc,.bool false,I nc,I nt,I nk,I na,I no,I nn,.slice la pl.length lc,I se,I sn] (rfl) B_b3 rfl (by kernel_rfl) rfl (fun w6_ M6=>⟨?_,?_⟩)
 ·exact ⟨M6.out.old B_b0.out (Nat.ne_of_lt D_b0_b3.out),M6.out.old B_b1.out (Nat.ne_of_lt D_b1_b3.out)⟩
 replace B_b0:=zwl M6 B_b0 D_b0_b3
 replace B_b1:=zwl M6 B_b1 D_b1_b3
 replace B_b2:=zwl M6 B_b2 D_b2_b3
 replace B_b3:=zwb M6
 replace S1:=zwr M6 S1 N_b3
 replace S2:=zwr M6 S2 N_b3
 replace S3:=zwr M6 S3 N_b3
 replace S4:=zwr M6 S4 N_b3
 replace HB:=zwr M6 HB N_b3
 replace HP:=zwr M6 HP N_b3
 replace EW:=zwe M6 EW O_b3
 clear HSS
 have HSS : Hid (w6_.heap[b0]? = some (.cells #[.slice ca sc.length cc,.slice ua su.length uc,.slice aa sa.length ac,.slice pa sp.length pc] 30 (0,0)) ∧ w6_.heap[b1]? = some (.cells #[I gen,.slice xa 0 xc,.bool false,I nc,I nt,I nk,I na,I no,I nn,.slice la pl.length lc,I se,I sn] 40 (0,0))):=⟨B_b0.out,B_b1.out⟩
 refine held_norm (fun K hK=>?_); go_simp; refine hK _ ?_; clear hK K
 refine held_value 4 (by kernel_rfl) rfl rfl _ rfl HSS.out ?_
 refine held_norm (fun K hK=>?_); go_simp; refine hK _ ?_; clear hK K
 refine held_value 5 (by kernel_rfl) rfl rfl _ rfl HSS.out ?_
 refine held_norm (fun K hK=>?_); go_simp; refine hK _ ?_; clear hK K
 refine wpAnyH_done (by kernel_rfl) ?_ _
 clear HSS
 go_wp2
 have z0:=run_box (P:=Try.prog) 30 B_b2.out Try.underlying30 (by kernel_rfl)
 have z1:=run_box (P:=Try.prog) 40 B_b3.out Try.underlying40 (by kernel_rfl)
 refine bodyPost_ret (by simp [results,Try.results36,asAddr,z0,z1]; rfl) rfl ?_
 exact ⟨_,rfl,EW.out,Rd.widen (A:=B) (tup4_rd (st_rd (s:=⟨sc,su,sa,sp⟩) S1.out S2.out S3.out S4.out) (sv_rd (v:=⟨gen,[],false,⟨nc,nt,⟨nk,na,no,nn⟩⟩,pl,⟨se,sn⟩⟩) HB.out HP.out) (Rd.all fun w=>bytes_nil w)) (fun k _ h=>HK.out.2.2.2 k h)⟩
set_option maxRecDepth 100000 in
set_option maxHeartbeats 2000000 in
theorem refServe_write (sc : List Int) (su : List (Int × Int)) (sa : List An) (sp : List Rq) (gen : Int) (bl : List (List UInt8)) (nc nt nk na no nn : Int) (se sn : Int) (p1 p2 : Int) (l : List (Int × Int)) (c u a p box plan : Value) (w : World) (A : Nat → Prop) (hs : Rd A (fun w=>elSt w [c,u,a,p] ⟨sc,su,sa,sp⟩) w) (hb : Rd A (fun w=>RowOf 1 elBs w box bl) w) (hp : Rd A (fun w=>Writes w plan ((p1,p2) :: l)) w) (hr1 : sc.length * 8 ≤ 140737488355328) (hr2 : (1 + su.length) * 16 ≤ 140737488355328) :
  Keeps Try.prog 36 #[.agg #[c,u,a,p],.agg #[I gen,box,.bool true,I nc,I nt,I nk,I na,I no,I nn,plan,I se,I sn]] w A (fun r w'=>Tup4 (serveM ⟨sc,su,sa,sp⟩ ⟨gen,bl,true,⟨nc,nt,⟨nk,na,no,nn⟩⟩,((p1,p2) :: l),⟨se,sn⟩⟩).1 (serveM ⟨sc,su,sa,sp⟩ ⟨gen,bl,true,⟨nc,nt,⟨nk,na,no,nn⟩⟩,((p1,p2) :: l),⟨se,sn⟩⟩).2.1 (serveM ⟨sc,su,sa,sp⟩ ⟨gen,bl,true,⟨nc,nt,⟨nk,na,no,nn⟩⟩,((p1,p2) :: l),⟨se,sn⟩⟩).2.2.1 (serveM ⟨sc,su,sa,sp⟩ ⟨gen,bl,true,⟨nc,nt,⟨nk,na,no,nn⟩⟩,((p1,p2) :: l),⟨se,sn⟩⟩).2.2.2 r w'):=by
 unfold Keeps
 obtain ⟨_,_,_,_,e,s1,s2,s3,s4⟩:=rd_st hs
 simp only [List.cons.injEq,and_true] at e
 obtain ⟨rfl,rfl,rfl,rfl⟩:=e
 clear hs
 obtain ⟨ca,cc,rfl⟩:=row_slice s1.out
 obtain ⟨ua,uc,rfl⟩:=row_slice s2.out
 obtain ⟨aa,ac,rfl⟩:=rowOf_slice s3.out
 obtain ⟨pa,pc,rfl⟩:=rowOf_slice s4.out
 simp only [] at *
 have EW:=Lib.hid (Ext.refl w)
 obtain ⟨B,hB⟩:=away A w.heap.size 4
 have HK:=Lib.hid hB
 clear hB
 have S1:=Lib.hid (s1.widen HK.out.1)
 have S2:=Lib.hid (s2.widen HK.out.1)
 have S3:=Lib.hid (s3.widen HK.out.1)
 have S4:=Lib.hid (s4.widen HK.out.1)
 have HB:=Lib.hid (hb.widen HK.out.1)
 have HP:=Lib.hid (hp.widen HK.out.1)
 clear s1 s2 s3 s4 hb hp
 obtain ⟨xa,xc,rfl⟩:=rowOf_slice HB.out.out
 obtain ⟨lb,lo,lc,rfl,hx1,hx2,hf,hrest⟩:=plan_first HP.out
 have HF:=Lib.hid hf
 replace HP:=Lib.hid hrest
 unfold maxLen at hx2
 clear hf hrest
 have HR:=Lib.hid (And.intro hr1 hr2)
 clear hr1 hr2
 have hX : serveM ⟨sc,su,sa,sp⟩ ⟨gen,bl,true,⟨nc,nt,⟨nk,na,no,nn⟩⟩,((p1,p2) :: l),⟨se,sn⟩⟩ = (writeSt ⟨sc,su,sa,sp⟩ (p1,p2),⟨gen,bl,true,⟨nc,nt,⟨nk,na,no,nn⟩⟩,l,⟨se,sn⟩⟩,[],0):=rfl
 rw [hX]
 clear hX
 by_cases hcap : lc = 1
 case pos =>
  obtain rfl : l = []:=List.eq_nil_of_length_eq_zero (by omega)
  subst hcap
  simp only [List.length_nil,Nat.zero_add] at *
  replace HP:=Lib.hid (Rd.all (A:=B) (w:=w) fun w=>writes_empty w lb lo 0 (by decide))
  go_enter Try.func36,Try.ntmps36
  go_wp2_with ((with_reducible refine zst (L:=[43,40,30,67]) ?_ ?_); exact rfl)
  unfold Hid
  refine wpList_boxB rfl 30 (.tmp 0) rfl #[.slice ca sc.length cc,.slice ua su.length uc,.slice aa sa.length ac,.slice pa sp.length pc] rfl (fun b0 w1_ M1=>?_)
  have B_b0:=zmb M1
  replace S1:=zme M1 S1
  replace S2:=zme M1 S2
  replace S3:=zme M1 S3
  replace S4:=zme M1 S4
  replace HB:=zme M1 HB
  replace HP:=zme M1 HP
  replace HF:=zme M1 HF
  replace EW:=zet EW M1
  go_wp2_with ((with_reducible refine zst (L:=[43,40,30,67]) ?_ ?_); exact rfl)
  unfold Hid
  refine wpList_boxB rfl 40 (.tmp 1) rfl #[I gen,.slice xa bl.length xc,.bool true,I nc,I nt,I nk,I na,I no,I nn,.slice (some ⟨lb,lo,none⟩) 1 1,I se,I sn] rfl (fun b1 w2_ M2=>?_)
  have D_b0_b1:=zld B_b0 M2
  replace B_b0:=zmo M2 B_b0
  have B_b1:=zmb M2
  replace S1:=zme M2 S1
  replace S2:=zme M2 S2
  replace S3:=zme M2 S3
  replace S4:=zme M2 S4
  replace HB:=zme M2 HB
  replace HP:=zme M2 HP
  replace HF:=zme M2 HF
  replace EW:=zet EW M2
  go_wp2_with ((with_reducible refine zst (L:=[43,40,30,67]) ?_ ?_); exact rfl)
  unfold Hid
  refine wpList_allocB rfl 30 #[.slice none 0 0,.slice none 0 0,.slice none 0 0,.slice none 0 0] (by kernel_rfl) (fun b2 w3_ M3=>?_)
  have D_b0_b2:=zld B_b0 M3
  have D_b1_b2:=zld B_b1 M3
  replace B_b0:=zmo M3 B_b0
  replace B_b1:=zmo M3 B_b1
  have B_b2:=zmb M3
  replace S1:=zme M3 S1
  replace S2:=zme M3 S2
  replace S3:=zme M3 S3
  replace S4:=zme M3 S4
  replace HB:=zme M3 HB
  replace HP:=zme M3 HP
  replace HF:=zme M3 HF
  replace EW:=zet EW M3
  go_wp2_with ((with_reducible refine zst (L:=[43,40,30,67]) ?_ ?_); exact rfl)
  unfold Hid
  refine wpList_allocB rfl 40 #[I 0,.slice none 0 0,.bool false,I 0,I 0,I 0,I 0,I 0,I 0,.slice none 0 0,I 0,I 0] (by kernel_rfl) (fun b3 w4_ M4=>?_)
  have D_b0_b3:=zld B_b0 M4
  have D_b1_b3:=zld B_b1 M4
  have D_b2_b3:=zld B_b2 M4
  replace B_b0:=zmo M4 B_b0
  replace B_b1:=zmo M4 B_b1
  replace B_b2:=zmo M4 B_b2
  have B_b3:=zmb M4
  replace S1:=zme M4 S1
  replace S2:=zme M4 S2
  replace S3:=zme M4 S3
  replace S4:=zme M4 S4
  replace HB:=zme M4 HB
  replace HP:=zme M4 HP
  replace HF:=zme M4 HF
  replace EW:=zet EW M4
  have A_b0 : Hid (b0 = w.heap.size + 0):=by unfold Hid; have q0:=M1.out.at_; have r0:=M1.out.size; omega
  have N_b0:=znb HK A_b0 (by decide)
  have O_b0:=zob A_b0
  have A_b1 : Hid (b1 = w.heap.size + 1):=by unfold Hid; have q0:=M1.out.at_; have r0:=M1.out.size; have q1:=M2.out.at_; have r1:=M2.out.size; omega
  have N_b1:=znb HK A_b1 (by decide)
  have O_b1:=zob A_b1
  have A_b2 : Hid (b2 = w.heap.size + 2):=by unfold Hid; have q0:=M1.out.at_; have r0:=M1.out.size; have q1:=M2.out.at_; have r1:=M2.out.size; have q2:=M3.out.at_; have r2:=M3.out.size; omega
  have N_b2:=znb HK A_b2 (by decide)
  have O_b2:=zob A_b2
  have A_b3 : Hid (b3 = w.heap.size + 3):=by unfold Hid; have q0:=M1.out.at_; have r0:=M1.out.size; have q1:=M2.out.at_; have r1:=M2.out.size; have q2:=M3.out.at_; have r2:=M3.out.size; have q3:=M4.out.at_; have r3:=M4.out.size; omega
  have N_b3:=znb HK A_b3 (by decide)
  have O_b3:=zob A_b3
  have c2:=cell_of (i:=2) B_b1.out rfl
  have c9:=cell_of (i:=9) B_b1.out rfl
  go_wp2_with fail
  clear c2 c9
  have hx0:=B_b0.out
  have x9:=cell_of (i:=9) B_b1.out rfl
  obtain ⟨y0,y1⟩:=HF.out.out
  refine wp_region_mono_tail 6 [none,none,none,none,none,some (.inr (fun r wx=>Rd (fun k=>B k ∨ w4_.heap.size ≤ k) (Agg elSt (writeSt ⟨sc,su,sa,sp⟩ (p1,p2)) r) wx))] (by kernel_rfl) (by kernel_rfl) ?_ ?_
  ·exact ⟨trivial,trivial,trivial,trivial,trivial,fun _=>Rd.mono _ _,trivial⟩
  refine wpM_q (.agg #[.slice ca sc.length cc,.slice ua su.length uc,.slice aa sa.length ac,.slice pa sp.length pc]) rfl (fun w' hw'=>run_loadM 30 (.tmp 2) rfl b0 0 rfl (blk_ext hx0 hw') [.slice ca sc.length cc,.slice ua su.length uc,.slice aa sa.length ac,.slice pa sp.length pc] rfl Try.underlying30 (by kernel_rfl)) ?_
  refine wpM_norm (fun K hK=>?_); go_simp; refine hK _ ?_; clear hK K
  iterate 1 (refine wpM_p (fun K hK=>?_); go_simp; first | refine hK _ ?_ | refine ⟨(fun h=>by cases h),hK _ ?_⟩; clear hK K)
  refine wpM_q (.slice (some ⟨lb,lo,none⟩) 1 1) rfl (fun w' hw'=>by have q0:=hw'.cell x9; go_simp) ?_
  refine wpM_norm (fun K hK=>?_); go_simp; refine hK _ ?_; clear hK K
  iterate 1 (refine wpM_p (fun K hK=>?_); go_simp; first | refine hK _ ?_ | refine ⟨(fun h=>by cases h),hK _ ?_⟩; clear hK K)
  refine wpM_q (.agg #[I p1,I p2]) rfl (fun w' hw'=>by have q0:=hw'.cell y0; have q1:=hw'.cell y1; go_simp) ?_
  refine wpM_norm (fun K hK=>?_); go_simp; refine hK _ ?_; clear hK K
  refine wpM_l _ rfl (fun w' hw' hk=>?_) (fun v26=>?_)
  ·have hle:=hw'.size
   have hkk:=refWrite_keeps _ _ _ _ ⟨sc,su,sa,sp⟩ p1 p2 w' B ((st_rd (s:=⟨sc,su,sa,sp⟩) S1.out S2.out S3.out S4.out).ext hw') HR.out.1 HR.out.2
   clear hk
   unfold makes
   go_simp
   exact ⟨Ext.refl _,Calls.mono hkk fun e w'' ⟨r,he,hx,ht⟩=>⟨r,he,hx,ht.widen (fun k _ h=>h.imp_right (Nat.le_trans hle))⟩⟩
  refine wpM_norm (fun K hK=>?_); go_simp; refine hK _ ?_; clear hK K
  refine wpM_nil ?_
  intro w9 e9 hX
  have hr : Rd (fun k=>B k ∨ w4_.heap.size ≤ k) (Agg elSt (writeSt ⟨sc,su,sa,sp⟩ (p1,p2)) v26) w9:=hX 26
  clear hX hx0 x9 y0 y1
  obtain ⟨cs,rfl,hcs⟩:=rd_agg hr
  obtain ⟨c',u',a',p',rfl,r1,r2,r3,r4⟩:=rd_st hcs
  obtain ⟨ca',cc',rfl⟩:=row_slice r1.out
  obtain ⟨ua',uc',rfl⟩:=row_slice r2.out
  obtain ⟨aa',ac',rfl⟩:=rowOf_slice r3.out
  obtain ⟨pa',pc',rfl⟩:=rowOf_slice r4.out
  have hsz : w.heap.size + 4 ≤ w4_.heap.size:=by have q:=(Array.getElem?_eq_some_iff.1 B_b3.out).1; have q2:=A_b3.out; omega
  have hin : ∀ k,k < w9.heap.size → (B k ∨ w4_.heap.size ≤ k) → B k:=fun k _ h=>by
   rcases h with h | h
   ·exact h
   ·exact HK.out.2.1 k (by omega)
  have R1:=Lib.hid (r1.widen hin)
  have R2:=Lib.hid (r2.widen hin)
  have R3:=Lib.hid (r3.widen hin)
  have R4:=Lib.hid (r4.widen hin)
  clear hr hcs r1 r2 r3 r4 hin hsz
  replace B_b0:=zbx B_b0 e9
  replace B_b1:=zbx B_b1 e9
  replace B_b2:=zbx B_b2 e9
  replace B_b3:=zbx B_b3 e9
  replace S1:=zrx S1 e9
  replace S2:=zrx S2 e9
  replace S3:=zrx S3 e9
  replace S4:=zrx S4 e9
  replace HB:=zrx HB e9
  replace HP:=zrx HP e9
  replace HF:=zrx HF e9
  replace EW:=Lib.hid (EW.out.trans e9)
  clear S1 S2 S3 S4
  show wpList _ _ _ [_] _ _
  go_wp2_with ((with_reducible refine zst (L:=[43,40,30,67]) ?_ ?_); exact rfl)
  unfold Hid
  refine wpList_storeW rfl 30 (.tmp 2) (.tmp 26) rfl b0 rfl [.slice ca' (writeSt ⟨sc,su,sa,sp⟩ (p1,p2)).cells.length cc',.slice ua' (writeSt ⟨sc,su,sa,sp⟩ (p1,p2)).undo.length uc',.slice aa' (writeSt ⟨sc,su,sa,sp⟩ (p1,p2)).answers.length ac',.slice pa' (writeSt ⟨sc,su,sa,sp⟩ (p1,p2)).past.length pc'] (rfl) B_b0 rfl (by kernel_rfl) rfl (fun w5_ M5=>?_)
  replace B_b0:=zwb M5
  replace B_b1:=zwg M5 B_b1 D_b0_b1
  replace B_b2:=zwg M5 B_b2 D_b0_b2
  replace B_b3:=zwg M5 B_b3 D_b0_b3
  replace HB:=zwr M5 HB N_b0
  replace HP:=zwr M5 HP N_b0
  replace HF:=zwr M5 HF N_b0
  replace R1:=zwr M5 R1 N_b0
  replace R2:=zwr M5 R2 N_b0
  replace R3:=zwr M5 R3 N_b0
  replace R4:=zwr M5 R4 N_b0
  replace EW:=zwe M5 EW O_b0
  have c9:=cell_of (i:=9) B_b1.out rfl
  go_wp2_with ((with_reducible refine zst (L:=[43,40,30,67]) ?_ ?_); exact rfl)
  unfold Hid
  clear c9
  refine wpList_storeP rfl 26 (.tmp 30) (.tmp 29) rfl b1 9 rfl [.slice (some ⟨lb,lo,none⟩) 0 0] (rfl) B_b1 rfl (by kernel_rfl) rfl [I gen,.slice xa bl.length xc,.bool true,I nc,I nt,I nk,I na,I no,I nn,.slice (some ⟨lb,lo,none⟩) 0 0,I se,I sn] rfl (fun w6_ M6=>?_)
  replace B_b0:=zwl M6 B_b0 D_b0_b1
  replace B_b1:=zwb M6
  replace B_b2:=zwg M6 B_b2 D_b1_b2
  replace B_b3:=zwg M6 B_b3 D_b1_b3
  replace HB:=zwr M6 HB N_b1
  replace HP:=zwr M6 HP N_b1
  replace HF:=zwr M6 HF N_b1
  replace R1:=zwr M6 R1 N_b1
  replace R2:=zwr M6 R2 N_b1
  replace R3:=zwr M6 R3 N_b1
  replace R4:=zwr M6 R4 N_b1
  replace EW:=zwe M6 EW O_b1
  go_wp2_with fail
  refine held_drew (S:=fun w'=>w'.heap[b0]? = some (.cells #[.slice ca' (writeSt ⟨sc,su,sa,sp⟩ (p1,p2)).cells.length cc',.slice ua' (writeSt ⟨sc,su,sa,sp⟩ (p1,p2)).undo.length uc',.slice aa' (writeSt ⟨sc,su,sa,sp⟩ (p1,p2)).answers.length ac',.slice pa' (writeSt ⟨sc,su,sa,sp⟩ (p1,p2)).past.length pc'] 30 (0,0)) ∧ w'.heap[b1]? = some (.cells #[I gen,.slice xa bl.length xc,.bool true,I nc,I nt,I nk,I na,I no,I nn,.slice (some ⟨lb,lo,none⟩) 0 0,I se,I sn] 40 (0,0))) (by kernel_rfl) (fun wd ed _=>?_)
  replace B_b0:=zbx B_b0 ed
  replace B_b1:=zbx B_b1 ed
  replace B_b2:=zbx B_b2 ed
  replace B_b3:=zbx B_b3 ed
  replace HB:=zrx HB ed
  replace HP:=zrx HP ed
  replace HF:=zrx HF ed
  replace R1:=zrx R1 ed
  replace R2:=zrx R2 ed
  replace R3:=zrx R3 ed
  replace R4:=zrx R4 ed
  replace EW:=Lib.hid (EW.out.trans ed)
  have HSS : Hid (wd.heap[b0]? = some (.cells #[.slice ca' (writeSt ⟨sc,su,sa,sp⟩ (p1,p2)).cells.length cc',.slice ua' (writeSt ⟨sc,su,sa,sp⟩ (p1,p2)).undo.length uc',.slice aa' (writeSt ⟨sc,su,sa,sp⟩ (p1,p2)).answers.length ac',.slice pa' (writeSt ⟨sc,su,sa,sp⟩ (p1,p2)).past.length pc'] 30 (0,0)) ∧ wd.heap[b1]? = some (.cells #[I gen,.slice xa bl.length xc,.bool true,I nc,I nt,I nk,I na,I no,I nn,.slice (some ⟨lb,lo,none⟩) 0 0,I se,I sn] 40 (0,0))):=⟨B_b0.out,B_b1.out⟩
  refine held_loadW 0 rfl (by kernel_rfl) (by kernel_rfl) (by kernel_rfl) (fun _ _ _ _ h=>h) rfl 30 (.tmp 2) rfl b0 rfl (fun w' hS=>hS.1) Try.underlying30 (by kernel_rfl) HSS ?_
  refine held_norm (fun K hK=>?_); go_simp; refine hK _ ?_; clear hK K
  refine held_loadW 1 rfl (by kernel_rfl) (by kernel_rfl) (by kernel_rfl) (fun _ _ _ _ h=>h) rfl 40 (.tmp 3) rfl b1 rfl (fun w' hS=>hS.2) Try.underlying40 (by kernel_rfl) HSS ?_
  refine held_norm (fun K hK=>?_); go_simp; refine hK _ ?_; clear hK K
  refine held_storeW 2 (by kernel_rfl) rfl rfl 30 (.tmp 4) (.tmp 31) rfl b2 rfl [.slice ca' (writeSt ⟨sc,su,sa,sp⟩ (p1,p2)).cells.length cc',.slice ua' (writeSt ⟨sc,su,sa,sp⟩ (p1,p2)).undo.length uc',.slice aa' (writeSt ⟨sc,su,sa,sp⟩ (p1,p2)).answers.length ac',.slice pa' (writeSt ⟨sc,su,sa,sp⟩ (p1,p2)).past.length pc'] (rfl) B_b2 rfl (by kernel_rfl) rfl (fun w7_ M7=>⟨?_,?_⟩)
  ·exact ⟨M7.out.old B_b0.out (Nat.ne_of_lt D_b0_b2.out),M7.out.old B_b1.out (Nat.ne_of_lt D_b1_b2.out)⟩
  replace B_b0:=zwl M7 B_b0 D_b0_b2
  replace B_b1:=zwl M7 B_b1 D_b1_b2
  replace B_b2:=zwb M7
  replace B_b3:=zwg M7 B_b3 D_b2_b3
  replace HB:=zwr M7 HB N_b2
  replace HP:=zwr M7 HP N_b2
  replace HF:=zwr M7 HF N_b2
  replace R1:=zwr M7 R1 N_b2
  replace R2:=zwr M7 R2 N_b2
  replace R3:=zwr M7 R3 N_b2
  replace R4:=zwr M7 R4 N_b2
  replace EW:=zwe M7 EW O_b2
  clear HSS
  have HSS : Hid (w7_.heap[b0]? = some (.cells #[.slice ca' (writeSt ⟨sc,su,sa,sp⟩ (p1,p2)).cells.length cc',.slice ua' (writeSt ⟨sc,su,sa,sp⟩ (p1,p2)).undo.length uc',.slice aa' (writeSt ⟨sc,su,sa,sp⟩ (p1,p2)).answers.length ac',.slice pa' (writeSt ⟨sc,su,sa,sp⟩ (p1,p2)).past.length pc'] 30 (0,0)) ∧ w7_.heap[b1]? = some (.cells #[I gen,.slice xa bl.length xc,.bool true,I nc,I nt,I nk,I na,I no,I nn,.slice (some ⟨lb,lo,none⟩) 0 0,I se,I sn] 40 (0,0))):=⟨B_b0.out,B_b1.out⟩
  refine held_norm (fun K hK=>?_); go_simp; refine hK _ ?_; clear hK K
  refine held_storeW 3 (by kernel_rfl) rfl rfl 40 (.tmp 5) (.tmp 32) rfl b3 rfl [I gen,.slice xa bl.length xc,.bool true,I nc,I nt,I nk,I na,I no,I nn,.slice (some ⟨lb,lo,none⟩) 0 0,I se,I sn] (rfl) B_b3 rfl (by kernel_rfl) rfl (fun w8_ M8=>⟨?_,?_⟩)
  ·exact ⟨M8.out.old B_b0.out (Nat.ne_of_lt D_b0_b3.out),M8.out.old B_b1.out (Nat.ne_of_lt D_b1_b3.out)⟩
  replace B_b0:=zwl M8 B_b0 D_b0_b3
  replace B_b1:=zwl M8 B_b1 D_b1_b3
  replace B_b2:=zwl M8 B_b2 D_b2_b3
  replace B_b3:=zwb M8
  replace HB:=zwr M8 HB N_b3
  replace HP:=zwr M8 HP N_b3
  replace HF:=zwr M8 HF N_b3
  replace R1:=zwr M8 R1 N_b3
  replace R2:=zwr M8 R2 N_b3
  replace R3:=zwr M8 R3 N_b3
  replace R4:=zwr M8 R4 N_b3
  replace EW:=zwe M8 EW O_b3
  clear HSS
  have HSS : Hid (w8_.heap[b0]? = some (.cells #[.slice ca' (writeSt ⟨sc,su,sa,sp⟩ (p1,p2)).cells.length cc',.slice ua' (writeSt ⟨sc,su,sa,sp⟩ (p1,p2)).undo.length uc',.slice aa' (writeSt ⟨sc,su,sa,sp⟩ (p1,p2)).answers.length ac',.slice pa' (writeSt ⟨sc,su,sa,sp⟩ (p1,p2)).past.length pc'] 30 (0,0)) ∧ w8_.heap[b1]? = some (.cells #[I gen,.slice xa bl.length xc,.bool true,I nc,I nt,I nk,I na,I no,I nn,.slice (some ⟨lb,lo,none⟩) 0 0,I se,I sn] 40 (0,0))):=⟨B_b0.out,B_b1.out⟩
  refine held_norm (fun K hK=>?_); go_simp; refine hK _ ?_; clear hK K
  refine held_value 4 (by kernel_rfl) rfl rfl _ rfl HSS.out ?_
  refine held_norm (fun K hK=>?_); go_simp; refine hK _ ?_; clear hK K
  refine held_value 5 (by kernel_rfl) rfl rfl _ rfl HSS.out ?_
  refine held_norm (fun K hK=>?_); go_simp; refine hK _ ?_; clear hK K
  refine wpAnyH_done (by kernel_rfl) ?_ _
  clear HSS
  go_wp2
  have z0:=run_box (P:=Try.prog) 30 B_b2.out Try.underlying30 (by kernel_rfl)
  have z1:=run_box (P:=Try.prog) 40 B_b3.out Try.underlying40 (by kernel_rfl)
  refine bodyPost_ret (by simp [results,Try.results36,asAddr,z0,z1]; rfl) rfl ?_
  exact ⟨_,rfl,EW.out,Rd.widen (A:=B) (tup4_rd (st_rd (s:=writeSt ⟨sc,su,sa,sp⟩ (p1,p2)) R1.out R2.out R3.out R4.out) (sv_rd (v:=⟨gen,bl,true,⟨nc,nt,⟨nk,na,no,nn⟩⟩,[],⟨se,sn⟩⟩) HB.out HP.out) (Rd.all fun w=>bytes_nil w)) (fun k _ h=>HK.out.2.2.2 k h)⟩
 go_enter Try.func36,Try.ntmps36
 go_wp2_with ((with_reducible refine zst (L:=[43,40,30,67]) ?_ ?_); exact rfl)
 unfold Hid
 refine wpList_boxB rfl 30 (.tmp 0) rfl #[.slice ca sc.length cc,.slice ua su.length uc,.slice aa sa.length ac,.slice pa sp.length pc] rfl (fun b0 w1_ M1=>?_)
 have B_b0:=zmb M1
 replace S1:=zme M1 S1
 replace S2:=zme M1 S2
 replace S3:=zme M1 S3
 replace S4:=zme M1 S4
 replace HB:=zme M1 HB
 replace HP:=zme M1 HP
 replace HF:=zme M1 HF
 replace EW:=zet EW M1
 go_wp2_with ((with_reducible refine zst (L:=[43,40,30,67]) ?_ ?_); exact rfl)
 unfold Hid
 refine wpList_boxB rfl 40 (.tmp 1) rfl #[I gen,.slice xa bl.length xc,.bool true,I nc,I nt,I nk,I na,I no,I nn,.slice (some ⟨lb,lo,none⟩) (l.length + 1) lc,I se,I sn] rfl (fun b1 w2_ M2=>?_)
 have D_b0_b1:=zld B_b0 M2
 replace B_b0:=zmo M2 B_b0
 have B_b1:=zmb M2
 replace S1:=zme M2 S1
 replace S2:=zme M2 S2
 replace S3:=zme M2 S3
 replace S4:=zme M2 S4
 replace HB:=zme M2 HB
 replace HP:=zme M2 HP
 replace HF:=zme M2 HF
 replace EW:=zet EW M2
 go_wp2_with ((with_reducible refine zst (L:=[43,40,30,67]) ?_ ?_); exact rfl)
 unfold Hid
 refine wpList_allocB rfl 30 #[.slice none 0 0,.slice none 0 0,.slice none 0 0,.slice none 0 0] (by kernel_rfl) (fun b2 w3_ M3=>?_)
 have D_b0_b2:=zld B_b0 M3
 have D_b1_b2:=zld B_b1 M3
 replace B_b0:=zmo M3 B_b0
 replace B_b1:=zmo M3 B_b1
 have B_b2:=zmb M3
 replace S1:=zme M3 S1
 replace S2:=zme M3 S2
 replace S3:=zme M3 S3
 replace S4:=zme M3 S4
 replace HB:=zme M3 HB
 replace HP:=zme M3 HP
 replace HF:=zme M3 HF
 replace EW:=zet EW M3
 go_wp2_with ((with_reducible refine zst (L:=[43,40,30,67]) ?_ ?_); exact rfl)
 unfold Hid
 refine wpList_allocB rfl 40 #[I 0,.slice none 0 0,.bool false,I 0,I 0,I 0,I 0,I 0,I 0,.slice none 0 0,I 0,I 0] (by kernel_rfl) (fun b3 w4_ M4=>?_)
 have D_b0_b3:=zld B_b0 M4
 have D_b1_b3:=zld B_b1 M4
 have D_b2_b3:=zld B_b2 M4
 replace B_b0:=zmo M4 B_b0
 replace B_b1:=zmo M4 B_b1
 replace B_b2:=zmo M4 B_b2
 have B_b3:=zmb M4
 replace S1:=zme M4 S1
 replace S2:=zme M4 S2
 replace S3:=zme M4 S3
 replace S4:=zme M4 S4
 replace HB:=zme M4 HB
 replace HP:=zme M4 HP
 replace HF:=zme M4 HF
 replace EW:=zet EW M4
 have A_b0 : Hid (b0 = w.heap.size + 0):=by unfold Hid; have q0:=M1.out.at_; have r0:=M1.out.size; omega
 have N_b0:=znb HK A_b0 (by decide)
 have O_b0:=zob A_b0
 have A_b1 : Hid (b1 = w.heap.size + 1):=by unfold Hid; have q0:=M1.out.at_; have r0:=M1.out.size; have q1:=M2.out.at_; have r1:=M2.out.size; omega
 have N_b1:=znb HK A_b1 (by decide)
 have O_b1:=zob A_b1
 have A_b2 : Hid (b2 = w.heap.size + 2):=by unfold Hid; have q0:=M1.out.at_; have r0:=M1.out.size; have q1:=M2.out.at_; have r1:=M2.out.size; have q2:=M3.out.at_; have r2:=M3.out.size; omega
 have N_b2:=znb HK A_b2 (by decide)
 have O_b2:=zob A_b2
 have A_b3 : Hid (b3 = w.heap.size + 3):=by unfold Hid; have q0:=M1.out.at_; have r0:=M1.out.size; have q1:=M2.out.at_; have r1:=M2.out.size; have q2:=M3.out.at_; have r2:=M3.out.size; have q3:=M4.out.at_; have r3:=M4.out.size; omega
 have N_b3:=znb HK A_b3 (by decide)
 have O_b3:=zob A_b3
 have c2:=cell_of (i:=2) B_b1.out rfl
 have c9:=cell_of (i:=9) B_b1.out rfl
 go_wp2_with fail
 clear c2 c9
 have hx0:=B_b0.out
 have x9:=cell_of (i:=9) B_b1.out rfl
 obtain ⟨y0,y1⟩:=HF.out.out
 refine wp_region_mono_tail 6 [none,none,none,none,none,some (.inr (fun r wx=>Rd (fun k=>B k ∨ w4_.heap.size ≤ k) (Agg elSt (writeSt ⟨sc,su,sa,sp⟩ (p1,p2)) r) wx))] (by kernel_rfl) (by kernel_rfl) ?_ ?_
 ·exact ⟨trivial,trivial,trivial,trivial,trivial,fun _=>Rd.mono _ _,trivial⟩
 refine wpM_q (.agg #[.slice ca sc.length cc,.slice ua su.length uc,.slice aa sa.length ac,.slice pa sp.length pc]) rfl (fun w' hw'=>run_loadM 30 (.tmp 2) rfl b0 0 rfl (blk_ext hx0 hw') [.slice ca sc.length cc,.slice ua su.length uc,.slice aa sa.length ac,.slice pa sp.length pc] rfl Try.underlying30 (by kernel_rfl)) ?_
 refine wpM_norm (fun K hK=>?_); go_simp; refine hK _ ?_; clear hK K
 iterate 1 (refine wpM_p (fun K hK=>?_); go_simp; first | refine hK _ ?_ | refine ⟨(fun h=>by cases h),hK _ ?_⟩; clear hK K)
 refine wpM_q (.slice (some ⟨lb,lo,none⟩) (l.length + 1) lc) rfl (fun w' hw'=>by have q0:=hw'.cell x9; go_simp) ?_
 refine wpM_norm (fun K hK=>?_); go_simp; refine hK _ ?_; clear hK K
 iterate 1 (refine wpM_p (fun K hK=>?_); go_simp; first | refine hK _ ?_ | refine ⟨(fun h=>by cases h),hK _ ?_⟩; clear hK K)
 refine wpM_q (.agg #[I p1,I p2]) rfl (fun w' hw'=>by have q0:=hw'.cell y0; have q1:=hw'.cell y1; go_simp) ?_
 refine wpM_norm (fun K hK=>?_); go_simp; refine hK _ ?_; clear hK K
 refine wpM_l _ rfl (fun w' hw' hk=>?_) (fun v26=>?_)
 ·have hle:=hw'.size
  have hkk:=refWrite_keeps _ _ _ _ ⟨sc,su,sa,sp⟩ p1 p2 w' B ((st_rd (s:=⟨sc,su,sa,sp⟩) S1.out S2.out S3.out S4.out).ext hw') HR.out.1 HR.out.2
  clear hk
  unfold makes
  go_simp
  exact ⟨Ext.refl _,Calls.mono hkk fun e w'' ⟨r,he,hx,ht⟩=>⟨r,he,hx,ht.widen (fun k _ h=>h.imp_right (Nat.le_trans hle))⟩⟩
 refine wpM_norm (fun K hK=>?_); go_simp; refine hK _ ?_; clear hK K
 refine wpM_nil ?_
 intro w9 e9 hX
 have hr : Rd (fun k=>B k ∨ w4_.heap.size ≤ k) (Agg elSt (writeSt ⟨sc,su,sa,sp⟩ (p1,p2)) v26) w9:=hX 26
 clear hX hx0 x9 y0 y1
 obtain ⟨cs,rfl,hcs⟩:=rd_agg hr
 obtain ⟨c',u',a',p',rfl,r1,r2,r3,r4⟩:=rd_st hcs
 obtain ⟨ca',cc',rfl⟩:=row_slice r1.out
 obtain ⟨ua',uc',rfl⟩:=row_slice r2.out
 obtain ⟨aa',ac',rfl⟩:=rowOf_slice r3.out
 obtain ⟨pa',pc',rfl⟩:=rowOf_slice r4.out
 have hsz : w.heap.size + 4 ≤ w4_.heap.size:=by have q:=(Array.getElem?_eq_some_iff.1 B_b3.out).1; have q2:=A_b3.out; omega
 have hin : ∀ k,k < w9.heap.size → (B k ∨ w4_.heap.size ≤ k) → B k:=fun k _ h=>by
  rcases h with h | h
  ·exact h
  ·exact HK.out.2.1 k (by omega)
 have R1:=Lib.hid (r1.widen hin)
 have R2:=Lib.hid (r2.widen hin)
 have R3:=Lib.hid (r3.widen hin)
 have R4:=Lib.hid (r4.widen hin)
 clear hr hcs r1 r2 r3 r4 hin hsz
 replace B_b0:=zbx B_b0 e9
 replace B_b1:=zbx B_b1 e9
 replace B_b2:=zbx B_b2 e9
 replace B_b3:=zbx B_b3 e9
 replace S1:=zrx S1 e9
 replace S2:=zrx S2 e9
 replace S3:=zrx S3 e9
 replace S4:=zrx S4 e9
 replace HB:=zrx HB e9
 replace HP:=zrx HP e9
 replace HF:=zrx HF e9
 replace EW:=Lib.hid (EW.out.trans e9)
 clear S1 S2 S3 S4
 show wpList _ _ _ [_] _ _
 go_wp2_with ((with_reducible refine zst (L:=[43,40,30,67]) ?_ ?_); exact rfl)
 unfold Hid
 refine wpList_storeW rfl 30 (.tmp 2) (.tmp 26) rfl b0 rfl [.slice ca' (writeSt ⟨sc,su,sa,sp⟩ (p1,p2)).cells.length cc',.slice ua' (writeSt ⟨sc,su,sa,sp⟩ (p1,p2)).undo.length uc',.slice aa' (writeSt ⟨sc,su,sa,sp⟩ (p1,p2)).answers.length ac',.slice pa' (writeSt ⟨sc,su,sa,sp⟩ (p1,p2)).past.length pc'] (rfl) B_b0 rfl (by kernel_rfl) rfl (fun w5_ M5=>?_)
 replace B_b0:=zwb M5
 replace B_b1:=zwg M5 B_b1 D_b0_b1
 replace B_b2:=zwg M5 B_b2 D_b0_b2
 replace B_b3:=zwg M5 B_b3 D_b0_b3
 replace HB:=zwr M5 HB N_b0
 replace HP:=zwr M5 HP N_b0
 replace HF:=zwr M5 HF N_b0
 replace R1:=zwr M5 R1 N_b0
 replace R2:=zwr M5 R2 N_b0
 replace R3:=zwr M5 R3 N_b0
 replace R4:=zwr M5 R4 N_b0
 replace EW:=zwe M5 EW O_b0
 have c9:=cell_of (i:=9) B_b1.out rfl
 go_wp2_with ((with_reducible refine zst (L:=[43,40,30,67]) ?_ ?_); exact rfl)
 unfold Hid
 clear c9
 refine wpList_storeP rfl 26 (.tmp 30) (.tmp 29) rfl b1 9 rfl [.slice (some ⟨lb,lo + 2,none⟩) l.length (lc - 1)] (rfl) B_b1 rfl (by kernel_rfl) rfl [I gen,.slice xa bl.length xc,.bool true,I nc,I nt,I nk,I na,I no,I nn,.slice (some ⟨lb,lo + 2,none⟩) l.length (lc - 1),I se,I sn] rfl (fun w6_ M6=>?_)
 replace B_b0:=zwl M6 B_b0 D_b0_b1
 replace B_b1:=zwb M6
 replace B_b2:=zwg M6 B_b2 D_b1_b2
 replace B_b3:=zwg M6 B_b3 D_b1_b3
 replace HB:=zwr M6 HB N_b1
 replace HP:=zwr M6 HP N_b1
 replace HF:=zwr M6 HF N_b1
 replace R1:=zwr M6 R1 N_b1
 replace R2:=zwr M6 R2 N_b1
 replace R3:=zwr M6 R3 N_b1
 replace R4:=zwr M6 R4 N_b1
 replace EW:=zwe M6 EW O_b1
 go_wp2_with fail
 refine held_drew (S:=fun w'=>w'.heap[b0]? = some (.cells #[.slice ca' (writeSt ⟨sc,su,sa,sp⟩ (p1,p2)).cells.length cc',.slice ua' (writeSt ⟨sc,su,sa,sp⟩ (p1,p2)).undo.length uc',.slice aa' (writeSt ⟨sc,su,sa,sp⟩ (p1,p2)).answers.length ac',.slice pa' (writeSt ⟨sc,su,sa,sp⟩ (p1,p2)).past.length pc'] 30 (0,0)) ∧ w'.heap[b1]? = some (.cells #[I gen,.slice xa bl.length xc,.bool true,I nc,I nt,I nk,I na,I no,I nn,.slice (some ⟨lb,lo + 2,none⟩) l.length (lc - 1),I se,I sn] 40 (0,0))) (by kernel_rfl) (fun wd ed _=>?_)
 replace B_b0:=zbx B_b0 ed
 replace B_b1:=zbx B_b1 ed
 replace B_b2:=zbx B_b2 ed
 replace B_b3:=zbx B_b3 ed
 replace HB:=zrx HB ed
 replace HP:=zrx HP ed
 replace HF:=zrx HF ed
 replace R1:=zrx R1 ed
 replace R2:=zrx R2 ed
 replace R3:=zrx R3 ed
 replace R4:=zrx R4 ed
 replace EW:=Lib.hid (EW.out.trans ed)
 have HSS : Hid (wd.heap[b0]? = some (.cells #[.slice ca' (writeSt ⟨sc,su,sa,sp⟩ (p1,p2)).cells.length cc',.slice ua' (writeSt ⟨sc,su,sa,sp⟩ (p1,p2)).undo.length uc',.slice aa' (writeSt ⟨sc,su,sa,sp⟩ (p1,p2)).answers.length ac',.slice pa' (writeSt ⟨sc,su,sa,sp⟩ (p1,p2)).past.length pc'] 30 (0,0)) ∧ wd.heap[b1]? = some (.cells #[I gen,.slice xa bl.length xc,.bool true,I nc,I nt,I nk,I na,I no,I nn,.slice (some ⟨lb,lo + 2,none⟩) l.length (lc - 1),I se,I sn] 40 (0,0))):=⟨B_b0.out,B_b1.out⟩
 refine held_loadW 0 rfl (by kernel_rfl) (by kernel_rfl) (by kernel_rfl) (fun _ _ _ _ h=>h) rfl 30 (.tmp 2) rfl b0 rfl (fun w' hS=>hS.1) Try.underlying30 (by kernel_rfl) HSS ?_
 refine held_norm (fun K hK=>?_); go_simp; refine hK _ ?_; clear hK K
 refine held_loadW 1 rfl (by kernel_rfl) (by kernel_rfl) (by kernel_rfl) (fun _ _ _ _ h=>h) rfl 40 (.tmp 3) rfl b1 rfl (fun w' hS=>hS.2) Try.underlying40 (by kernel_rfl) HSS ?_
 refine held_norm (fun K hK=>?_); go_simp; refine hK _ ?_; clear hK K
 refine held_storeW 2 (by kernel_rfl) rfl rfl 30 (.tmp 4) (.tmp 31) rfl b2 rfl [.slice ca' (writeSt ⟨sc,su,sa,sp⟩ (p1,p2)).cells.length cc',.slice ua' (writeSt ⟨sc,su,sa,sp⟩ (p1,p2)).undo.length uc',.slice aa' (writeSt ⟨sc,su,sa,sp⟩ (p1,p2)).answers.length ac',.slice pa' (writeSt ⟨sc,su,sa,sp⟩ (p1,p2)).past.length pc'] (rfl) B_b2 rfl (by kernel_rfl) rfl (fun w7_ M7=>⟨?_,?_⟩)
 ·exact ⟨M7.out.old B_b0.out (Nat.ne_of_lt D_b0_b2.out),M7.out.old B_b1.out (Nat.ne_of_lt D_b1_b2.out)⟩
 replace B_b0:=zwl M7 B_b0 D_b0_b2
 replace B_b1:=zwl M7 B_b1 D_b1_b2
 replace B_b2:=zwb M7
 replace B_b3:=zwg M7 B_b3 D_b2_b3
 replace HB:=zwr M7 HB N_b2
 replace HP:=zwr M7 HP N_b2
 replace HF:=zwr M7 HF N_b2
 replace R1:=zwr M7 R1 N_b2
 replace R2:=zwr M7 R2 N_b2
 replace R3:=zwr M7 R3 N_b2
 replace R4:=zwr M7 R4 N_b2
 replace EW:=zwe M7 EW O_b2
 clear HSS
 have HSS : Hid (w7_.heap[b0]? = some (.cells #[.slice ca' (writeSt ⟨sc,su,sa,sp⟩ (p1,p2)).cells.length cc',.slice ua' (writeSt ⟨sc,su,sa,sp⟩ (p1,p2)).undo.length uc',.slice aa' (writeSt ⟨sc,su,sa,sp⟩ (p1,p2)).answers.length ac',.slice pa' (writeSt ⟨sc,su,sa,sp⟩ (p1,p2)).past.length pc'] 30 (0,0)) ∧ w7_.heap[b1]? = some (.cells #[I gen,.slice xa bl.length xc,.bool true,I nc,I nt,I nk,I na,I no,I nn,.slice (some ⟨lb,lo + 2,none⟩) l.length (lc - 1),I se,I sn] 40 (0,0))):=⟨B_b0.out,B_b1.out⟩
 refine held_norm (fun K hK=>?_); go_simp; refine hK _ ?_; clear hK K
 refine held_storeW 3 (by kernel_rfl) rfl rfl 40 (.tmp 5) (.tmp 32) rfl b3 rfl [I gen,.slice xa bl.length xc,.bool true,I nc,I nt,I nk,I na,I no,I nn,.slice (some ⟨lb,lo + 2,none⟩) l.length (lc - 1),I se,I sn] (rfl) B_b3 rfl (by kernel_rfl) rfl (fun w8_ M8=>⟨?_,?_⟩)
 ·exact ⟨M8.out.old B_b0.out (Nat.ne_of_lt D_b0_b3.out),M8.out.old B_b1.out (Nat.ne_of_lt D_b1_b3.out)⟩
 replace B_b0:=zwl M8 B_b0 D_b0_b3
 replace B_b1:=zwl M8 B_b1 D_b1_b3
 replace B_b2:=zwl M8 B_b2 D_b2_b3
 replace B_b3:=zwb M8
 replace HB:=zwr M8 HB N_b3
 replace HP:=zwr M8 HP N_b3
 replace HF:=zwr M8 HF N_b3
 replace R1:=zwr M8 R1 N_b3
 replace R2:=zwr M8 R2 N_b3
 replace R3:=zwr M8 R3 N_b3
 replace R4:=zwr M8 R4 N_b3
 replace EW:=zwe M8 EW O_b3
 clear HSS
 have HSS : Hid (w8_.heap[b0]? = some (.cells #[.slice ca' (writeSt ⟨sc,su,sa,sp⟩ (p1,p2)).cells.length cc',.slice ua' (writeSt ⟨sc,su,sa,sp⟩ (p1,p2)).undo.length uc',.slice aa' (writeSt ⟨sc,su,sa,sp⟩ (p1,p2)).answers.length ac',.slice pa' (writeSt ⟨sc,su,sa,sp⟩ (p1,p2)).past.length pc'] 30 (0,0)) ∧ w8_.heap[b1]? = some (.cells #[I gen,.slice xa bl.length xc,.bool true,I nc,I nt,I nk,I na,I no,I nn,.slice (some ⟨lb,lo + 2,none⟩) l.length (lc - 1),I se,I sn] 40 (0,0))):=⟨B_b0.out,B_b1.out⟩
 refine held_norm (fun K hK=>?_); go_simp; refine hK _ ?_; clear hK K
 refine held_value 4 (by kernel_rfl) rfl rfl _ rfl HSS.out ?_
 refine held_norm (fun K hK=>?_); go_simp; refine hK _ ?_; clear hK K
 refine held_value 5 (by kernel_rfl) rfl rfl _ rfl HSS.out ?_
 refine held_norm (fun K hK=>?_); go_simp; refine hK _ ?_; clear hK K
 refine wpAnyH_done (by kernel_rfl) ?_ _
 clear HSS
 go_wp2
 have z0:=run_box (P:=Try.prog) 30 B_b2.out Try.underlying30 (by kernel_rfl)
 have z1:=run_box (P:=Try.prog) 40 B_b3.out Try.underlying40 (by kernel_rfl)
 refine bodyPost_ret (by simp [results,Try.results36,asAddr,z0,z1]; rfl) rfl ?_
 exact ⟨_,rfl,EW.out,Rd.widen (A:=B) (tup4_rd (st_rd (s:=writeSt ⟨sc,su,sa,sp⟩ (p1,p2)) R1.out R2.out R3.out R4.out) (sv_rd (v:=⟨gen,bl,true,⟨nc,nt,⟨nk,na,no,nn⟩⟩,l,⟨se,sn⟩⟩) HB.out HP.out) (Rd.all fun w=>bytes_nil w)) (fun k _ h=>HK.out.2.2.2 k h)⟩
set_option maxRecDepth 100000 in
set_option maxHeartbeats 2000000 in
theorem refServe_done (sc : List Int) (su : List (Int × Int)) (sa : List An) (sp : List Rq) (gen : Int) (bl : List (List UInt8)) (nc nt nk na no nn : Int) (se sn : Int) (c u a p box plan : Value) (w : World) (A : Nat → Prop) (hs : Rd A (fun w=>elSt w [c,u,a,p] ⟨sc,su,sa,sp⟩) w) (hb : Rd A (fun w=>RowOf 1 elBs w box bl) w) (hp : Rd A (fun w=>Writes w plan []) w) (hr3 : sa.length ≤ 1000) (hr4 : sp.length ≤ 1000000) :
  Keeps Try.prog 36 #[.agg #[c,u,a,p],.agg #[I gen,box,.bool true,I nc,I nt,I nk,I na,I no,I nn,plan,I se,I sn]] w A (fun r w'=>Tup4 (serveM ⟨sc,su,sa,sp⟩ ⟨gen,bl,true,⟨nc,nt,⟨nk,na,no,nn⟩⟩,[],⟨se,sn⟩⟩).1 (serveM ⟨sc,su,sa,sp⟩ ⟨gen,bl,true,⟨nc,nt,⟨nk,na,no,nn⟩⟩,[],⟨se,sn⟩⟩).2.1 (serveM ⟨sc,su,sa,sp⟩ ⟨gen,bl,true,⟨nc,nt,⟨nk,na,no,nn⟩⟩,[],⟨se,sn⟩⟩).2.2.1 (serveM ⟨sc,su,sa,sp⟩ ⟨gen,bl,true,⟨nc,nt,⟨nk,na,no,nn⟩⟩,[],⟨se,sn⟩⟩).2.2.2 r w'):=by
 unfold Keeps
 obtain ⟨_,_,_,_,e,s1,s2,s3,s4⟩:=rd_st hs
 simp only [List.cons.injEq,and_true] at e
 obtain ⟨rfl,rfl,rfl,rfl⟩:=e
 clear hs
 obtain ⟨ca,cc,rfl⟩:=row_slice s1.out
 obtain ⟨ua,uc,rfl⟩:=row_slice s2.out
 obtain ⟨aa,ac,rfl⟩:=rowOf_slice s3.out
 obtain ⟨pa,pc,rfl⟩:=rowOf_slice s4.out
 simp only [] at *
 have EW:=Lib.hid (Ext.refl w)
 obtain ⟨B,hB⟩:=away A w.heap.size 4
 have HK:=Lib.hid hB
 clear hB
 have S1:=Lib.hid (s1.widen HK.out.1)
 have S2:=Lib.hid (s2.widen HK.out.1)
 have S3:=Lib.hid (s3.widen HK.out.1)
 have S4:=Lib.hid (s4.widen HK.out.1)
 have HB:=Lib.hid (hb.widen HK.out.1)
 have HP:=Lib.hid (hp.widen HK.out.1)
 clear s1 s2 s3 s4 hb hp
 obtain ⟨xa,xc,rfl⟩:=rowOf_slice HB.out.out
 obtain ⟨la,lc,rfl⟩:=row_slice HP.out.out
 have HR:=Lib.hid (And.intro hr3 hr4)
 clear hr3 hr4
 have hX : serveM ⟨sc,su,sa,sp⟩ ⟨gen,bl,true,⟨nc,nt,⟨nk,na,no,nn⟩⟩,[],⟨se,sn⟩⟩ = (commitSt ⟨sc,su,sa,sp⟩ ⟨nc,nt,⟨nk,na,no,nn⟩⟩ ⟨se,sn⟩,idleSv gen bl,ansB ⟨nc,nt,⟨se,sn⟩⟩,0):=rfl
 rw [hX]
 clear hX
 go_enter Try.func36,Try.ntmps36
 go_wp2_with ((with_reducible refine zst (L:=[43,40,30,67]) ?_ ?_); exact rfl)
 unfold Hid
 refine wpList_boxB rfl 30 (.tmp 0) rfl #[.slice ca sc.length cc,.slice ua su.length uc,.slice aa sa.length ac,.slice pa sp.length pc] rfl (fun b0 w1_ M1=>?_)
 have B_b0:=zmb M1
 replace S1:=zme M1 S1
 replace S2:=zme M1 S2
 replace S3:=zme M1 S3
 replace S4:=zme M1 S4
 replace HB:=zme M1 HB
 replace HP:=zme M1 HP
 replace EW:=zet EW M1
 go_wp2_with ((with_reducible refine zst (L:=[43,40,30,67]) ?_ ?_); exact rfl)
 unfold Hid
 refine wpList_boxB rfl 40 (.tmp 1) rfl #[I gen,.slice xa bl.length xc,.bool true,I nc,I nt,I nk,I na,I no,I nn,.slice la 0 lc,I se,I sn] rfl (fun b1 w2_ M2=>?_)
 have D_b0_b1:=zld B_b0 M2
 replace B_b0:=zmo M2 B_b0
 have B_b1:=zmb M2
 replace S1:=zme M2 S1
 replace S2:=zme M2 S2
 replace S3:=zme M2 S3
 replace S4:=zme M2 S4
 replace HB:=zme M2 HB
 replace HP:=zme M2 HP
 replace EW:=zet EW M2
 go_wp2_with ((with_reducible refine zst (L:=[43,40,30,67]) ?_ ?_); exact rfl)
 unfold Hid
 refine wpList_allocB rfl 30 #[.slice none 0 0,.slice none 0 0,.slice none 0 0,.slice none 0 0] (by kernel_rfl) (fun b2 w3_ M3=>?_)
 have D_b0_b2:=zld B_b0 M3
 have D_b1_b2:=zld B_b1 M3
 replace B_b0:=zmo M3 B_b0
 replace B_b1:=zmo M3 B_b1
 have B_b2:=zmb M3
 replace S1:=zme M3 S1
 replace S2:=zme M3 S2
 replace S3:=zme M3 S3
 replace S4:=zme M3 S4
 replace HB:=zme M3 HB
 replace HP:=zme M3 HP
 replace EW:=zet EW M3
 go_wp2_with ((with_reducible refine zst (L:=[43,40,30,67]) ?_ ?_); exact rfl)
 unfold Hid
 refine wpList_allocB rfl 40 #[I 0,.slice none 0 0,.bool false,I 0,I 0,I 0,I 0,I 0,I 0,.slice none 0 0,I 0,I 0] (by kernel_rfl) (fun b3 w4_ M4=>?_)
 have D_b0_b3:=zld B_b0 M4
 have D_b1_b3:=zld B_b1 M4
 have D_b2_b3:=zld B_b2 M4
 replace B_b0:=zmo M4 B_b0
 replace B_b1:=zmo M4 B_b1
 replace B_b2:=zmo M4 B_b2
 have B_b3:=zmb M4
 replace S1:=zme M4 S1
 replace S2:=zme M4 S2
 replace S3:=zme M4 S3
 replace S4:=zme M4 S4
 replace HB:=zme M4 HB
 replace HP:=zme M4 HP
 replace EW:=zet EW M4
 have A_b0 : Hid (b0 = w.heap.size + 0):=by unfold Hid; have q0:=M1.out.at_; have r0:=M1.out.size; omega
 have N_b0:=znb HK A_b0 (by decide)
 have O_b0:=zob A_b0
 have A_b1 : Hid (b1 = w.heap.size + 1):=by unfold Hid; have q0:=M1.out.at_; have r0:=M1.out.size; have q1:=M2.out.at_; have r1:=M2.out.size; omega
 have N_b1:=znb HK A_b1 (by decide)
 have O_b1:=zob A_b1
 have A_b2 : Hid (b2 = w.heap.size + 2):=by unfold Hid; have q0:=M1.out.at_; have r0:=M1.out.size; have q1:=M2.out.at_; have r1:=M2.out.size; have q2:=M3.out.at_; have r2:=M3.out.size; omega
 have N_b2:=znb HK A_b2 (by decide)
 have O_b2:=zob A_b2
 have A_b3 : Hid (b3 = w.heap.size + 3):=by unfold Hid; have q0:=M1.out.at_; have r0:=M1.out.size; have q1:=M2.out.at_; have r1:=M2.out.size; have q2:=M3.out.at_; have r2:=M3.out.size; have q3:=M4.out.at_; have r3:=M4.out.size; omega
 have N_b3:=znb HK A_b3 (by decide)
 have O_b3:=zob A_b3
 have c2:=cell_of (i:=2) B_b1.out rfl
 have c3:=cell_of (i:=3) B_b1.out rfl
 have c4:=cell_of (i:=4) B_b1.out rfl
 have c9:=cell_of (i:=9) B_b1.out rfl
 have c10:=cell_of (i:=10) B_b1.out rfl
 have c11:=cell_of (i:=11) B_b1.out rfl
 go_wp2_with ((with_reducible refine zst (L:=[43,40,30,67]) ?_ ?_); exact rfl)
 unfold Hid
 clear c2 c3 c4 c9 c10 c11
 refine wpList_buildB rfl 77 #[(0,.tmp 37),(1,.tmp 40),(2,.tmp 42)] rfl #[I nc,I nt,I se,I sn] (by kernel_rfl) (fun v43 H_v43=>?_)
 go_wp2_with fail
 rw [show _ = Value.agg #[I nc,I nt,I se,I sn] from H_v43.out]
 refine (AnswerBytes_own nc nt se sn w4_).to fun v44 wb eb hby=>?_
 have hsz : w.heap.size + 4 ≤ w4_.heap.size:=by have q:=(Array.getElem?_eq_some_iff.1 B_b3.out).1; have q2:=A_b3.out; omega
 have HBY:=Lib.hid (hby.rd.widen (B:=B) (fun k _ h=>HK.out.2.1 k (by omega)))
 clear hby hsz
 replace B_b0:=zbx B_b0 eb
 replace B_b1:=zbx B_b1 eb
 replace B_b2:=zbx B_b2 eb
 replace B_b3:=zbx B_b3 eb
 replace S1:=zrx S1 eb
 replace S2:=zrx S2 eb
 replace S3:=zrx S3 eb
 replace S4:=zrx S4 eb
 replace HB:=zrx HB eb
 replace HP:=zrx HP eb
 replace EW:=Lib.hid (EW.out.trans eb)
 go_wp2_with fail
 refine held_drew (S:=fun w'=>w'.heap[b0]? = some (.cells #[.slice ca sc.length cc,.slice ua su.length uc,.slice aa sa.length ac,.slice pa sp.length pc] 30 (0,0)) ∧ w'.heap[b1]? = some (.cells #[I gen,.slice xa bl.length xc,.bool true,I nc,I nt,I nk,I na,I no,I nn,.slice la 0 lc,I se,I sn] 40 (0,0))) (by kernel_rfl) (fun wd ed _=>?_)
 replace B_b0:=zbx B_b0 ed
 replace B_b1:=zbx B_b1 ed
 replace B_b2:=zbx B_b2 ed
 replace B_b3:=zbx B_b3 ed
 replace S1:=zrx S1 ed
 replace S2:=zrx S2 ed
 replace S3:=zrx S3 ed
 replace S4:=zrx S4 ed
 replace HB:=zrx HB ed
 replace HP:=zrx HP ed
 replace HBY:=zrx HBY ed
 replace EW:=Lib.hid (EW.out.trans ed)
 have HSS : Hid (wd.heap[b0]? = some (.cells #[.slice ca sc.length cc,.slice ua su.length uc,.slice aa sa.length ac,.slice pa sp.length pc] 30 (0,0)) ∧ wd.heap[b1]? = some (.cells #[I gen,.slice xa bl.length xc,.bool true,I nc,I nt,I nk,I na,I no,I nn,.slice la 0 lc,I se,I sn] 40 (0,0))):=⟨B_b0.out,B_b1.out⟩
 refine held_loadW 0 rfl (by kernel_rfl) (by kernel_rfl) (by kernel_rfl) (fun _ _ _ _ h=>h) rfl 30 (.tmp 2) rfl b0 rfl (fun w' hS=>hS.1) Try.underlying30 (by kernel_rfl) HSS ?_
 refine held_norm (fun K hK=>?_); go_simp; refine hK _ ?_; clear hK K
 refine held_pure 1 rfl (by kernel_rfl) (by kernel_rfl) (by kernel_rfl) (fun _ _ _ _ h=>h) rfl HSS.out (fun K hK=>?_); go_simp; refine hK _ ?_; clear hK K
 refine held_take 2 rfl (by kernel_rfl) (by kernel_rfl) (by kernel_rfl) (fun _ _ _ _ h=>h) (.agg #[I nc,I nt,I nk,I na,I no,I nn]) rfl (fun w' hS=>run_loadM 35 (.tmp 46) rfl b1 3 rfl hS.2 [I nc,I nt,I nk,I na,I no,I nn] rfl Try.underlying35 (by kernel_rfl)) HSS.out ?_
 refine held_norm (fun K hK=>?_); go_simp; refine hK _ ?_; clear hK K
 refine held_pure 3 rfl (by kernel_rfl) (by kernel_rfl) (by kernel_rfl) (fun _ _ _ _ h=>h) rfl HSS.out (fun K hK=>?_); go_simp; refine hK _ ?_; clear hK K
 refine held_take 4 rfl (by kernel_rfl) (by kernel_rfl) (by kernel_rfl) (fun _ _ _ _ h=>h) (.agg #[I se,I sn]) rfl (fun w' hS=>run_loadM 38 (.tmp 48) rfl b1 10 rfl hS.2 [I se,I sn] rfl Try.underlying38 (by kernel_rfl)) HSS.out ?_
 refine held_norm (fun K hK=>?_); go_simp; refine hK _ ?_; clear hK K
 refine held_pure 6 rfl (by kernel_rfl) (by kernel_rfl) (by kernel_rfl) (fun _ _ _ _ h=>h) rfl HSS.out (fun K hK=>?_); go_simp; refine hK _ ?_; clear hK K
 refine held_take 7 rfl (by kernel_rfl) (by kernel_rfl) (by kernel_rfl) (fun _ _ _ _ h=>h) (I gen) rfl (fun w' hS=>by have q0:=cell_of (i:=0) hS.2 rfl; go_simp) HSS.out ?_
 refine held_norm (fun K hK=>?_); go_simp; refine hK _ ?_; clear hK K
 refine held_pure 8 rfl (by kernel_rfl) (by kernel_rfl) (by kernel_rfl) (fun _ _ _ _ h=>h) rfl HSS.out (fun K hK=>?_); go_simp; refine hK _ ?_; clear hK K
 refine held_take 9 rfl (by kernel_rfl) (by kernel_rfl) (by kernel_rfl) (fun _ _ _ _ h=>h) (.slice xa bl.length xc) rfl (fun w' hS=>by have q0:=cell_of (i:=1) hS.2 rfl; go_simp) HSS.out ?_
 refine held_norm (fun K hK=>?_); go_simp; refine hK _ ?_; clear hK K
 refine held_pure 10 rfl (by kernel_rfl) (by kernel_rfl) (by kernel_rfl) (fun _ _ _ _ h=>h) rfl HSS.out (fun K hK=>?_); go_simp; refine hK _ ?_; clear hK K
 refine held_pure 11 rfl (by kernel_rfl) (by kernel_rfl) (by kernel_rfl) (fun _ _ _ _ h=>h) rfl HSS.out (fun K hK=>?_); go_simp; refine hK _ ?_; clear hK K
 refine held_call 5 (by kernel_rfl) rfl rfl 54 #[.agg #[.slice ca sc.length cc,.slice ua su.length uc,.slice aa sa.length ac,.slice pa sp.length pc],.agg #[I nc,I nt,I nk,I na,I no,I nn],.agg #[I se,I sn]] (by go_simp) ?_
 refine (refCommit_keeps _ _ _ _ ⟨sc,su,sa,sp⟩ nc nt nk na no nn se sn wd B (st_rd (s:=⟨sc,su,sa,sp⟩) S1.out S2.out S3.out S4.out) HR.out.1 HR.out.2).to fun r w9 e9 hr=>?_
 obtain ⟨cs,rfl,hcs⟩:=rd_agg hr
 obtain ⟨c',u',a',p',rfl,r1,r2,r3,r4⟩:=rd_st hcs
 obtain ⟨ca',cc',rfl⟩:=row_slice r1.out
 obtain ⟨ua',uc',rfl⟩:=row_slice r2.out
 obtain ⟨aa',ac',rfl⟩:=rowOf_slice r3.out
 obtain ⟨pa',pc',rfl⟩:=rowOf_slice r4.out
 have hsz : w.heap.size + 4 ≤ wd.heap.size:=by have q:=(Array.getElem?_eq_some_iff.1 B_b3.out).1; have q2:=A_b3.out; omega
 have hin : ∀ k,k < w9.heap.size → (B k ∨ wd.heap.size ≤ k) → B k:=fun k _ h=>by
  rcases h with h | h
  ·exact h
  ·exact HK.out.2.1 k (by omega)
 have R1:=Lib.hid (r1.widen hin)
 have R2:=Lib.hid (r2.widen hin)
 have R3:=Lib.hid (r3.widen hin)
 have R4:=Lib.hid (r4.widen hin)
 clear hr hcs r1 r2 r3 r4 hin hsz
 replace B_b0:=zbx B_b0 e9
 replace B_b1:=zbx B_b1 e9
 replace B_b2:=zbx B_b2 e9
 replace B_b3:=zbx B_b3 e9
 replace S1:=zrx S1 e9
 replace S2:=zrx S2 e9
 replace S3:=zrx S3 e9
 replace S4:=zrx S4 e9
 replace HB:=zrx HB e9
 replace HP:=zrx HP e9
 replace HBY:=zrx HBY e9
 replace EW:=Lib.hid (EW.out.trans e9)
 clear S1 S2 S3 S4 HSS
 refine ⟨_,rfl,And.intro B_b0.out B_b1.out,?_⟩
 have HSS:=Lib.hid (And.intro B_b0.out B_b1.out)
 refine held_norm (fun K hK=>?_); go_simp; refine hK _ ?_; clear hK K
 refine held_storeW 12 (by kernel_rfl) rfl rfl 30 (.tmp 4) (.tmp 50) rfl b2 rfl [.slice ca' (commitSt ⟨sc,su,sa,sp⟩ ⟨nc,nt,⟨nk,na,no,nn⟩⟩ ⟨se,sn⟩).cells.length cc',.slice ua' (commitSt ⟨sc,su,sa,sp⟩ ⟨nc,nt,⟨nk,na,no,nn⟩⟩ ⟨se,sn⟩).undo.length uc',.slice aa' (commitSt ⟨sc,su,sa,sp⟩ ⟨nc,nt,⟨nk,na,no,nn⟩⟩ ⟨se,sn⟩).answers.length ac',.slice pa' (commitSt ⟨sc,su,sa,sp⟩ ⟨nc,nt,⟨nk,na,no,nn⟩⟩ ⟨se,sn⟩).past.length pc'] (rfl) B_b2 rfl (by kernel_rfl) rfl (fun w5_ M5=>⟨?_,?_⟩)
 ·exact ⟨M5.out.old B_b0.out (Nat.ne_of_lt D_b0_b2.out),M5.out.old B_b1.out (Nat.ne_of_lt D_b1_b2.out)⟩
 replace B_b0:=zwl M5 B_b0 D_b0_b2
 replace B_b1:=zwl M5 B_b1 D_b1_b2
 replace B_b2:=zwb M5
 replace B_b3:=zwg M5 B_b3 D_b2_b3
 replace HB:=zwr M5 HB N_b2
 replace HP:=zwr M5 HP N_b2
 replace HBY:=zwr M5 HBY N_b2
 replace R1:=zwr M5 R1 N_b2
 replace R2:=zwr M5 R2 N_b2
 replace R3:=zwr M5 R3 N_b2
 replace R4:=zwr M5 R4 N_b2
 replace EW:=zwe M5 EW O_b2
 clear HSS
 have HSS : Hid (w5_.heap[b0]? = some (.cells #[.slice ca sc.length cc,.slice ua su.length uc,.slice aa sa.length ac,.slice pa sp.length pc] 30 (0,0)) ∧ w5_.heap[b1]? = some (.cells #[I gen,.slice xa bl.length xc,.bool true,I nc,I nt,I nk,I na,I no,I nn,.slice la 0 lc,I se,I sn] 40 (0,0))):=⟨B_b0.out,B_b1.out⟩
 refine held_norm (fun K hK=>?_); go_simp; refine hK _ ?_; clear hK K
 refine held_storeW 13 (by kernel_rfl) rfl rfl 40 (.tmp 5) (.tmp 55) rfl b3 rfl [I gen,.slice xa bl.length xc,.bool false,I 0,I 0,I 0,I 0,I 0,I 0,.slice none 0 0,I 0,I 0] (rfl) B_b3 rfl (by kernel_rfl) rfl (fun w6_ M6=>⟨?_,?_⟩)
 ·exact ⟨M6.out.old B_b0.out (Nat.ne_of_lt D_b0_b3.out),M6.out.old B_b1.out (Nat.ne_of_lt D_b1_b3.out)⟩
 replace B_b0:=zwl M6 B_b0 D_b0_b3
 replace B_b1:=zwl M6 B_b1 D_b1_b3
 replace B_b2:=zwl M6 B_b2 D_b2_b3
 replace B_b3:=zwb M6
 replace HB:=zwr M6 HB N_b3
 replace HP:=zwr M6 HP N_b3
 replace HBY:=zwr M6 HBY N_b3
 replace R1:=zwr M6 R1 N_b3
 replace R2:=zwr M6 R2 N_b3
 replace R3:=zwr M6 R3 N_b3
 replace R4:=zwr M6 R4 N_b3
 replace EW:=zwe M6 EW O_b3
 clear HSS
 have HSS : Hid (w6_.heap[b0]? = some (.cells #[.slice ca sc.length cc,.slice ua su.length uc,.slice aa sa.length ac,.slice pa sp.length pc] 30 (0,0)) ∧ w6_.heap[b1]? = some (.cells #[I gen,.slice xa bl.length xc,.bool true,I nc,I nt,I nk,I na,I no,I nn,.slice la 0 lc,I se,I sn] 40 (0,0))):=⟨B_b0.out,B_b1.out⟩
 refine held_norm (fun K hK=>?_); go_simp; refine hK _ ?_; clear hK K
 refine held_value 14 (by kernel_rfl) rfl rfl _ rfl HSS.out ?_
 refine held_norm (fun K hK=>?_); go_simp; refine hK _ ?_; clear hK K
 refine held_value 15 (by kernel_rfl) rfl rfl _ rfl HSS.out ?_
 refine held_norm (fun K hK=>?_); go_simp; refine hK _ ?_; clear hK K
 refine wpAnyH_done (by kernel_rfl) ?_ _
 clear HSS
 go_wp2
 have z0:=run_box (P:=Try.prog) 30 B_b2.out Try.underlying30 (by kernel_rfl)
 have z1:=run_box (P:=Try.prog) 40 B_b3.out Try.underlying40 (by kernel_rfl)
 refine bodyPost_ret (by simp [results,Try.results36,asAddr,z0,z1]; rfl) rfl ?_
 exact ⟨_,rfl,EW.out,Rd.widen (A:=B) (tup4_rd (st_rd (s:=commitSt ⟨sc,su,sa,sp⟩ ⟨nc,nt,⟨nk,na,no,nn⟩⟩ ⟨se,sn⟩) R1.out R2.out R3.out R4.out) (sv_rd (v:=idleSv gen bl) HB.out (Rd.all fun w=>writes_nil w)) (HBY.out)) (fun k _ h=>HK.out.2.2.2 k h)⟩

end Go.Proofs.Ytdmipnnfoolelad

/- Walks over what the document says: which writes a call is: what is dropped amid, and swapped. -/
import Derived.Test.YtdmipnnfoolelabD5c
namespace Go.Proofs.Ytdmipnnfoolelab
open Go.RowKit Go.Mk

set_option maxRecDepth 100000 in
set_option maxHeartbeats 4000000 in
theorem rPlan_drop (v : Value) (xs : List Int) (a o n : Int) (w : World) (hv : Ints w v xs) (hx : Weak xs) (hc : wrongCl ⟨3, a, o, n⟩ = 0) (l : List (Int × Int)) (hL : ofCells xs (xs.getD 0 0).toNat = l) (D1 : List (Int × Int)) (D3 : Int) (hD : doR l ⟨3, a, o, n⟩ = (D1, ⟨0, D3⟩)) (hat : at1 l a + 1 < l.length) (hDl : D1.length = l.length - 1) (q1 q2 : Int) (hq : D1.getD (at1 l a) (0, 0) = (q1, q2)) (hP : planCl l ⟨3, a, o, n⟩ = [(1 + 2 * (at1 l a : Int), q1), (2 + 2 * (at1 l a : Int), q2), (0, (l.length : Int) - 1)]) :
    Calls Try.prog 9 #[v, .agg #[I 3, I a, I o, I n]] w fun e w' => PlansR w.heap.size l ⟨3, a, o, n⟩ e w' ∧ Ext w w' := by
  obtain ⟨hl11, hx0, hx5, hok⟩ := id hx
  have hln : l.length = (xs.getD 0 0).toNat := by rw [← hL, length_ofCells]
  have hl5 : l.length ≤ 5 := by omega
  rw [hL] at hok
  have hfind := fun nm wx (hw : Ints wx v xs) => refFind_any v xs nm wx hw hl11 hx0 hx5
  have hfa := find_at1 xs a (xs.getD 0 0).toNat
  rw [hL, ← hln] at hfa
  have hfo := find_at1 xs o (xs.getD 0 0).toNat
  rw [hL, ← hln] at hfo
  rw [← hln] at hfind
  have HL := Lib.hid hL
  have HD := Lib.hid hD
  have HX := Lib.hid hx
  have HOK := Lib.hid hok
  have HCW := Lib.hid hc
  have HV := Lib.hid hv
  clear hL hD hx hok hc hln hl11 hx0 hx5 hv
  have e0 : Ext w ((w.alloc (.cells #[I 3, I a, I o, I n] 24)).alloc (.cells #[I 0, I 0] 30)) := ((Ext.refl w).alloc _).alloc _
  go_enter Try.func9, Try.ntmps9
  go_wp2_with fail
  refine (refOfW_any v xs _ (HV.out.ext e0) HX.out.c).mono ?_
  rintro e w1 ⟨h1, rfl, e1, hw1⟩
  rw [HL.out] at hw1
  obtain ⟨⟨d0, d1, d2, d3⟩, -⟩ := plan_boxes rfl rfl e1
  obtain ⟨ao, cap, rfl, hq1, hq2, -⟩ := hw1.form
  unfold maxLen at hq2
  have HW1 := Lib.hid hw1
  clear hw1
  go_wp2_with fail
  refine (wDo_any _ l 3 a o n w1 HW1.out HOK.out HCW.out).mono ?_
  rintro e w2 ⟨⟨u, rfl, hu, -⟩, e2⟩
  rw [HD.out] at hu ⊢
  simp only [] at hu
  obtain ⟨bo, cap2, rfl, hr1, hr2, hcells⟩ := hu.form
  unfold maxLen at hr2
  have HU := Lib.hid hu
  have HCE := Lib.hid hcells
  clear d0 d1 d2 d3 hu hcells
  have m2 : Ext w w2 := e0.trans (e1.trans e2)
  have HB : Hid (∀ wx, Ext (w2.alloc (.cells #[I 0, I D3] 30)) wx → ((wx.cell? ⟨w.heap.size, 0, none⟩ = some (I 3) ∧ wx.cell? ⟨w.heap.size, 1, none⟩ = some (I a) ∧ wx.cell? ⟨w.heap.size, 2, none⟩ = some (I o) ∧ wx.cell? ⟨w.heap.size, 3, none⟩ = some (I n)) ∧ wx.heap[w.heap.size + 1]? = some (.cells #[I 0, I 0] 30 (0, 0))) ∧ wx.heap[w2.heap.size]? = some (.cells #[I 0, I D3] 30 (0, 0))) := fun wx hx =>
    ⟨plan_boxes rfl rfl (e1.trans (e2.trans (((Ext.refl w2).alloc _).trans hx))), block_ext hx⟩
  obtain ⟨⟨⟨c0, c1, c2, c3⟩, rb⟩, sb⟩ := HB.out _ (Ext.refl _)
  obtain ⟨x0, x1, f0, f1⟩ := box_of rb (Ext.refl _)
  obtain ⟨y0, y1, -, -⟩ := box_of sb (Ext.refl _)
  have hvv : Ints (w2.alloc (.cells #[I 0, I D3] 30)) v xs := HV.out.ext (m2.alloc _)
  have hsz : w.heap.size + 1 < w2.heap.size := by
    have := (Array.getElem?_eq_some_iff.1 (plan_boxes rfl rfl (e1.trans e2)).2).1
    exact this
  have hfA := fun wx hw => hfind a wx hw
  rw [hfa, if_pos (by omega)] at hfA
  have HP := Lib.hid hP
  obtain ⟨p, hp⟩ : ∃ p : Nat, l.length = p + 1 := ⟨l.length - 1, by omega⟩
  have hD1 : D1.length = p := by omega
  obtain ⟨b, off, rfl, ce1, ce2⟩ := HCE.out (at1 l a) (by omega)
  rw [hq] at ce1 ce2
  simp only [] at ce1 ce2
  have de1 := ((Ext.refl w2).alloc (.cells #[I 0, I D3] 30)).cell ce1
  have de2 := ((Ext.refl w2).alloc (.cells #[I 0, I D3] 30)).cell ce2
  rw [hD1] at hr1 ⊢
  have HLP := Lib.hid hp
  rw [hp] at hq1 ⊢
  have hap : at1 l a < p := by omega
  have hp5 : p ≤ 4 := by omega
  generalize at1 l a = i at *
  have hpl : (i : Int) < (p : Int) := by omega
  have hi0 : (0 : Int) ≤ (i : Int) := by omega
  have hne : ((p : Int) == (p : Int) + 1) = false := by simp; omega
  have hw1 : IntKind.i64.wrap (2 * (i : Int)) = 2 * i := by rw [IntKind.wrap_i64]; omega
  have hw2 : IntKind.i64.wrap (2 + 2 * (i : Int)) = 2 + 2 * i := by rw [IntKind.wrap_i64]; omega
  have hw3 : IntKind.i64.wrap (1 + 2 * (i : Int)) = 1 + 2 * i := by rw [IntKind.wrap_i64]; omega
  clear hDl hP hfa hfo hfind HCE hat hD1 hp hl5 hq ce1 ce2
  go_wp2_with (go_at_call 19; refine Calls.same (hfA _ hvv) ?_)
  refine wp_region_mono [none, none, none, none, none, none, none, none, none, none, none, none, none, none, none, none, none, none, some (.inr fun v wx => wx.ownsRow (w2.heap.size + 1) 43 2 v 2 (cells2 [(1 + 2 * (i : Int), q1), (2 + 2 * (i : Int), q2)])), none] (by kernel_rfl) (by kernel_rfl) ?_ ?_
  · exact ⟨trivial, trivial, trivial, trivial, trivial, trivial, trivial, trivial, trivial, trivial, trivial, trivial, trivial, trivial, trivial, trivial, trivial, trivial, monoOwns _ _ _ _ _, trivial, trivial⟩
  iterate 7 (refine wpM_p (fun K hK => ?_); go_simp; refine hK _ ?_; clear hK K)
  refine wpM_q (I q1) rfl (fun w' hw' => by have q0 := hw'.cell de1; go_simp) ?_
  iterate 8 (refine wpM_p (fun K hK => ?_); go_simp; refine hK _ ?_; clear hK K)
  refine wpM_q (I q2) rfl (fun w' hw' => by have q0 := hw'.cell de2; go_simp) ?_
  iterate 1 (refine wpM_p (fun K hK => ?_); go_simp; refine hK _ ?_; clear hK K)
  refine wpM_l _ rfl (fun w' hw' _ => ?_) (fun v84 => ?_)
  · unfold makes
    go_simp
    refine ⟨(Ext.refl _).alloc _, ?_⟩
    have := World.ownsRow_lit (base := w2.heap.size + 1) (e := 43) (size := 2) w' #[I (1 + 2 * (i : Int)), I q1, I (2 + 2 * (i : Int)), I q2] 2 (by have := hw'.size; simpa using this) (by decide) rfl
    simpa [cells2] using this
  iterate 1 (refine wpM_p (fun K hK => ?_); go_simp; refine hK _ ?_; clear hK K)
  refine wpM_nil ?_
  intro w6 he6 hF
  have ho6 : w6.ownsRow (w2.heap.size + 1) 43 2 v84 2 (cells2 [(1 + 2 * (i : Int), q1), (2 + 2 * (i : Int), q2)]) := hF 84
  clear hF de1 de2 hw1 hw2 hw3
  go_wp2_with (at_builtin; refine stop_at ?_)
  unfold Hid
  obtain ⟨i0, hi, hz0, hz1, hz2⟩ := info_parts Try.infoWrite2
  have hown := ho6.alloc (.cells #[I 0, I p] 43)
  have hlit : Row (w6.alloc (.cells #[I 0, I p] 43)) 2 (.slice (some ⟨w6.heap.size, 0, none⟩) 1 1) 1 (cells2 [(0, (p : Int))]) := by
    have := writes_lit (w := w6) 43 [(0, (p : Int))] #[I 0, I p] 1 rfl rfl (by decide)
    simpa [Writes] using this
  have hbase : w2.heap.size + 1 ≤ (w6.alloc (.cells #[I 0, I p] 43)).heap.size := by have := he6.size; simp at this ⊢; omega
  have exb := he6.alloc (.cells #[I 0, I p] 43)
  refine wpList_append_row _ rfl (.tmp 132) (.tmp 136) 28 rfl (w2.heap.size + 1) 43 i0 (.agg #[.int .i64 0, .int .i64 0]) 2 16 Try.underlying28 hi hz0 hz1 hz2 rfl (by decide) _ 2 (cells2 [(1 + 2 * (i : Int), q1), (2 + 2 * (i : Int), q2)]) rfl hown _ rfl 1 _ hlit (cells2_one _) (by omega) (by decide) hbase ?_
  intro v5 w5 ho5 hg5
  have ex5 : Ext (w2.alloc (.cells #[I 0, I D3] 30)) w5 := Ext.grown exb hg5 (fun j hj => by have := (hown.lt j hj).1; simpa using this)
  have hh5 : Has (w2.heap.size + 1) w5 v5 [(1 + 2 * (i : Int), q1), (2 + 2 * (i : Int), q2), (0, (l.length : Int) - 1)] := by
    have e : cells2 [(1 + 2 * (i : Int), q1), (2 + 2 * (i : Int), q2)] ++ cells2 [(0, (p : Int))] = cells2 [(1 + 2 * (i : Int), q1), (2 + 2 * (i : Int), q2), (0, (l.length : Int) - 1)] := by rw [← cells2_append]; rw [HLP.out]; simp [cells2]
    rw [e] at ho5
    exact ⟨_, _, _, ho5, fun w2 h2 => writes_of_owns h2⟩
  obtain ⟨-, sb5⟩ := HB.out w5 ex5
  obtain ⟨s0, s1, -, -⟩ := box_of sb5 (Ext.refl _)
  clear ho5 hg5 hown hlit hi hz0 hz1 hz2 c0 c1 c2 c3 x0 x1 f0 f1 y0 y1 rb sb sb5 hbase exb
  go_wp2
  refine wp_region_mono_tail 3 [none, none, none] (by kernel_rfl) (by kernel_rfl) ?_ ?_
  · exact ⟨trivial, trivial, trivial, trivial⟩
  iterate 1 (refine wpM_p (fun K hK => ?_); go_simp; refine hK _ ?_; clear hK K)
  refine wpM_q (.agg #[I 0, I D3]) rfl (fun w' hw' => by have q0 := hw'.cell s0; have q1 := hw'.cell s1; go_simp) ?_
  iterate 1 (refine wpM_p (fun K hK => ?_); go_simp; refine hK _ ?_; clear hK K)
  refine wpM_nil ?_
  intro w4 he4' _
  have he4 := ex5.trans he4'
  have hr := hh5.ext he4'
  clear s0 s1
  obtain ⟨⟨-, rb4⟩, sb4⟩ := HB.out w4 he4
  obtain ⟨x0, x1, f0, f1⟩ := box_of rb4 (Ext.refl _)
  go_wp2
  obtain ⟨z0, z1, -, -⟩ := box_of (set2d rb4 (I 0) (I D3)) (Ext.refl _)
  clear x0 x1 f0 f1
  refine bodyPost_ret (by simp [results, Try.results9, go_sem, z0, z1]; rfl) rfl ?_
  exact plan_end HD.out hsz ((m2.alloc _).trans he4) (by rw [HP.out]; exact hr)


set_option maxRecDepth 100000 in
set_option maxHeartbeats 4000000 in
theorem rPlan_swap (v : Value) (xs : List Int) (a o n : Int) (w : World) (hv : Ints w v xs) (hx : Weak xs) (hc : wrongCl ⟨6, a, o, n⟩ = 0) (l : List (Int × Int)) (hL : ofCells xs (xs.getD 0 0).toNat = l) (D1 : List (Int × Int)) (D3 : Int) (hD : doR l ⟨6, a, o, n⟩ = (D1, ⟨0, D3⟩)) (hat : at1 l a < l.length) (hot : at1 l o < l.length) (hDl : D1.length = l.length) (m1 m2' : Int) (hm1 : (D1.getD (at1 l a) (0, 0)).2 = m1) (hm2 : (D1.getD (at1 l o) (0, 0)).2 = m2') (hP : planCl l ⟨6, a, o, n⟩ = [(2 + 2 * (at1 l a : Int), m1), (2 + 2 * (at1 l o : Int), m2')]) :
    Calls Try.prog 9 #[v, .agg #[I 6, I a, I o, I n]] w fun e w' => PlansR w.heap.size l ⟨6, a, o, n⟩ e w' ∧ Ext w w' := by
  obtain ⟨hl11, hx0, hx5, hok⟩ := id hx
  have hln : l.length = (xs.getD 0 0).toNat := by rw [← hL, length_ofCells]
  have hl5 : l.length ≤ 5 := by omega
  rw [hL] at hok
  have hfind := fun nm wx (hw : Ints wx v xs) => refFind_any v xs nm wx hw hl11 hx0 hx5
  have hfa := find_at1 xs a (xs.getD 0 0).toNat
  rw [hL, ← hln] at hfa
  have hfo := find_at1 xs o (xs.getD 0 0).toNat
  rw [hL, ← hln] at hfo
  rw [← hln] at hfind
  have HL := Lib.hid hL
  have HD := Lib.hid hD
  have HX := Lib.hid hx
  have HOK := Lib.hid hok
  have HCW := Lib.hid hc
  have HV := Lib.hid hv
  clear hL hD hx hok hc hln hl11 hx0 hx5 hv
  have e0 : Ext w ((w.alloc (.cells #[I 6, I a, I o, I n] 24)).alloc (.cells #[I 0, I 0] 30)) := ((Ext.refl w).alloc _).alloc _
  go_enter Try.func9, Try.ntmps9
  go_wp2_with fail
  refine (refOfW_any v xs _ (HV.out.ext e0) HX.out.c).mono ?_
  rintro e w1 ⟨h1, rfl, e1, hw1⟩
  rw [HL.out] at hw1
  obtain ⟨⟨d0, d1, d2, d3⟩, -⟩ := plan_boxes rfl rfl e1
  obtain ⟨ao, cap, rfl, hq1, hq2, -⟩ := hw1.form
  unfold maxLen at hq2
  have HW1 := Lib.hid hw1
  clear hw1
  go_wp2_with fail
  refine (wDo_any _ l 6 a o n w1 HW1.out HOK.out HCW.out).mono ?_
  rintro e w2 ⟨⟨u, rfl, hu, -⟩, e2⟩
  rw [HD.out] at hu ⊢
  simp only [] at hu
  obtain ⟨bo, cap2, rfl, hr1, hr2, hcells⟩ := hu.form
  unfold maxLen at hr2
  have HU := Lib.hid hu
  have HCE := Lib.hid hcells
  clear d0 d1 d2 d3 hu hcells
  have m2 : Ext w w2 := e0.trans (e1.trans e2)
  have HB : Hid (∀ wx, Ext (w2.alloc (.cells #[I 0, I D3] 30)) wx → ((wx.cell? ⟨w.heap.size, 0, none⟩ = some (I 6) ∧ wx.cell? ⟨w.heap.size, 1, none⟩ = some (I a) ∧ wx.cell? ⟨w.heap.size, 2, none⟩ = some (I o) ∧ wx.cell? ⟨w.heap.size, 3, none⟩ = some (I n)) ∧ wx.heap[w.heap.size + 1]? = some (.cells #[I 0, I 0] 30 (0, 0))) ∧ wx.heap[w2.heap.size]? = some (.cells #[I 0, I D3] 30 (0, 0))) := fun wx hx =>
    ⟨plan_boxes rfl rfl (e1.trans (e2.trans (((Ext.refl w2).alloc _).trans hx))), block_ext hx⟩
  obtain ⟨⟨⟨c0, c1, c2, c3⟩, rb⟩, sb⟩ := HB.out _ (Ext.refl _)
  obtain ⟨x0, x1, f0, f1⟩ := box_of rb (Ext.refl _)
  obtain ⟨y0, y1, -, -⟩ := box_of sb (Ext.refl _)
  have hvv : Ints (w2.alloc (.cells #[I 0, I D3] 30)) v xs := HV.out.ext (m2.alloc _)
  have hsz : w.heap.size + 1 < w2.heap.size := by
    have := (Array.getElem?_eq_some_iff.1 (plan_boxes rfl rfl (e1.trans e2)).2).1
    exact this
  have hfA := fun wx hw => hfind a wx hw
  rw [hfa, if_pos hat] at hfA
  have hfO := fun wx hw => hfind o wx hw
  rw [hfo, if_pos hot] at hfO
  have HP := Lib.hid hP
  obtain ⟨b, off, rfl, -, ce1⟩ := HCE.out (at1 l a) (by omega)
  obtain ⟨b', off', ee, -, ce2⟩ := HCE.out (at1 l o) (by omega)
  simp only [Option.some.injEq, Addr.mk.injEq, and_true] at ee
  obtain ⟨rfl, rfl⟩ := ee
  rw [hm1] at ce1
  rw [hm2] at ce2
  have de1 := ((Ext.refl w2).alloc (.cells #[I 0, I D3] 30)).cell ce1
  have de2 := ((Ext.refl w2).alloc (.cells #[I 0, I D3] 30)).cell ce2
  rw [hDl]
  generalize at1 l a = i at *
  generalize at1 l o = j at *
  have hi1 : (i : Int) < (l.length : Int) := by omega
  have hj1 : (j : Int) < (l.length : Int) := by omega
  have hi0 : (0 : Int) ≤ (i : Int) := by omega
  have hj0 : (0 : Int) ≤ (j : Int) := by omega
  have hv1 : IntKind.i64.wrap (2 * (j : Int)) = 2 * j := by rw [IntKind.wrap_i64]; omega
  have hv2 : IntKind.i64.wrap (2 + 2 * (j : Int)) = 2 + 2 * j := by rw [IntKind.wrap_i64]; omega
  have hw1 : IntKind.i64.wrap (2 * (i : Int)) = 2 * i := by rw [IntKind.wrap_i64]; omega
  have hw2 : IntKind.i64.wrap (2 + 2 * (i : Int)) = 2 + 2 * i := by rw [IntKind.wrap_i64]; omega
  have hw3 : IntKind.i64.wrap (1 + 2 * (i : Int)) = 1 + 2 * i := by rw [IntKind.wrap_i64]; omega
  clear hDl hP hm1 hm2 hfa hfo hfind HCE ce1 ce2
  go_wp2_with (go_at_call 19; first
    | (have q2 := hdone; clear q2; refine Calls.same (hfO _ hvv) ?_)
    | (have hdone : True := trivial; refine Calls.same (hfA _ hvv) ?_))
  refine wp_region_mono_tail 21 [none, none, none, none, none, none, none, none, none, none, none, none, none, none, none, none, none, none, some (.inr fun v wx => Has (w2.heap.size + 1) wx v [(2 + 2 * (i : Int), m1), (2 + 2 * (j : Int), m2')]), none, none] (by kernel_rfl) (by kernel_rfl) ?_ ?_
  · exact ⟨trivial, trivial, trivial, trivial, trivial, trivial, trivial, trivial, trivial, trivial, trivial, trivial, trivial, trivial, trivial, trivial, trivial, trivial, monoHas _ _, trivial, trivial, trivial⟩
  iterate 7 (refine wpM_p (fun K hK => ?_); go_simp; refine hK _ ?_; clear hK K)
  refine wpM_q (I m1) rfl (fun w' hw' => by have q0 := hw'.cell de1; go_simp) ?_
  iterate 8 (refine wpM_p (fun K hK => ?_); go_simp; refine hK _ ?_; clear hK K)
  refine wpM_q (I m2') rfl (fun w' hw' => by have q0 := hw'.cell de2; go_simp) ?_
  iterate 1 (refine wpM_p (fun K hK => ?_); go_simp; refine hK _ ?_; clear hK K)
  refine wpM_l _ rfl (fun w' hw' _ => ?_) (fun v54 => ?_)
  · unfold makes
    go_simp
    exact ⟨(Ext.refl _).alloc _, has_lit [(2 + 2 * (i : Int), m1), (2 + 2 * (j : Int), m2')] _ 2 rfl rfl (by decide) _ (by have := hw'.size; simpa using this)⟩
  refine wpM_q (.agg #[I 0, I D3]) rfl (fun w' hw' => by have q0 := hw'.cell y0; have q1 := hw'.cell y1; go_simp) ?_
  iterate 1 (refine wpM_p (fun K hK => ?_); go_simp; refine hK _ ?_; clear hK K)
  refine wpM_nil ?_
  intro w4 he4 hF
  have hr : Has (w2.heap.size + 1) w4 v54 [(2 + 2 * (i : Int), m1), (2 + 2 * (j : Int), m2')] := hF 54
  clear c0 c1 c2 c3 x0 x1 f0 f1 y0 y1 rb sb hF de1 de2 hw1 hw2 hw3 hv1 hv2
  obtain ⟨⟨-, rb4⟩, sb4⟩ := HB.out w4 he4
  obtain ⟨x0, x1, f0, f1⟩ := box_of rb4 (Ext.refl _)
  go_wp2
  obtain ⟨z0, z1, -, -⟩ := box_of (set2d rb4 (I 0) (I D3)) (Ext.refl _)
  clear x0 x1 f0 f1
  refine bodyPost_ret (by simp [results, Try.results9, go_sem, z0, z1]; rfl) rfl ?_
  exact plan_end HD.out hsz ((m2.alloc _).trans he4) (by rw [HP.out]; exact hr)

end Go.Proofs.Ytdmipnnfoolelab

/- Walks over what the document says: which writes a call is: what is put anew, dropped, swapped. -/
import Derived.Test.YtdmipnnfoolelabD5b
namespace Go.Proofs.Ytdmipnnfoolelab
open Go.RowKit Go.Mk

set_option maxRecDepth 100000 in
set_option maxHeartbeats 4000000 in
theorem rPlan_new (v : Value) (xs : List Int) (a o n : Int) (w : World) (hv : Ints w v xs) (hx : Weak xs) (hc : wrongCl ⟨1, a, o, n⟩ = 0) (l : List (Int × Int)) (hL : ofCells xs (xs.getD 0 0).toNat = l) (D1 : List (Int × Int)) (D3 : Int) (hD : doR l ⟨1, a, o, n⟩ = (D1, ⟨0, D3⟩)) (hat : ¬ at1 l a < l.length) (hl4 : l.length < 5) (hDl : D1.length = l.length + 1) (hP : planCl l ⟨1, a, o, n⟩ = [(1 + 2 * (l.length : Int), a), (2 + 2 * (l.length : Int), n), (0, (l.length : Int) + 1)]) :
    Calls Try.prog 9 #[v, .agg #[I 1, I a, I o, I n]] w fun e w' => PlansR w.heap.size l ⟨1, a, o, n⟩ e w' ∧ Ext w w' := by
  obtain ⟨hl11, hx0, hx5, hok⟩ := id hx
  have hln : l.length = (xs.getD 0 0).toNat := by rw [← hL, length_ofCells]
  have hl5 : l.length ≤ 5 := by omega
  rw [hL] at hok
  have hfind := fun nm wx (hw : Ints wx v xs) => refFind_any v xs nm wx hw hl11 hx0 hx5
  have hfa := find_at1 xs a (xs.getD 0 0).toNat
  rw [hL, ← hln] at hfa
  have hfo := find_at1 xs o (xs.getD 0 0).toNat
  rw [hL, ← hln] at hfo
  rw [← hln] at hfind
  have HL := Lib.hid hL
  have HD := Lib.hid hD
  have HX := Lib.hid hx
  have HOK := Lib.hid hok
  have HCW := Lib.hid hc
  have HV := Lib.hid hv
  clear hL hD hx hok hc hln hl11 hx0 hx5 hv
  have e0 : Ext w ((w.alloc (.cells #[I 1, I a, I o, I n] 24)).alloc (.cells #[I 0, I 0] 30)) := ((Ext.refl w).alloc _).alloc _
  go_enter Try.func9, Try.ntmps9
  go_wp2_with fail
  refine (refOfW_any v xs _ (HV.out.ext e0) HX.out.c).mono ?_
  rintro e w1 ⟨h1, rfl, e1, hw1⟩
  rw [HL.out] at hw1
  obtain ⟨⟨d0, d1, d2, d3⟩, -⟩ := plan_boxes rfl rfl e1
  obtain ⟨ao, cap, rfl, hq1, hq2, -⟩ := hw1.form
  unfold maxLen at hq2
  have HW1 := Lib.hid hw1
  clear hw1
  go_wp2_with fail
  refine (wDo_any _ l 1 a o n w1 HW1.out HOK.out HCW.out).mono ?_
  rintro e w2 ⟨⟨u, rfl, hu, -⟩, e2⟩
  rw [HD.out] at hu ⊢
  simp only [] at hu
  obtain ⟨bo, cap2, rfl, hr1, hr2, hcells⟩ := hu.form
  unfold maxLen at hr2
  have HU := Lib.hid hu
  have HCE := Lib.hid hcells
  clear d0 d1 d2 d3 hu hcells
  have m2 : Ext w w2 := e0.trans (e1.trans e2)
  have HB : Hid (∀ wx, Ext (w2.alloc (.cells #[I 0, I D3] 30)) wx → ((wx.cell? ⟨w.heap.size, 0, none⟩ = some (I 1) ∧ wx.cell? ⟨w.heap.size, 1, none⟩ = some (I a) ∧ wx.cell? ⟨w.heap.size, 2, none⟩ = some (I o) ∧ wx.cell? ⟨w.heap.size, 3, none⟩ = some (I n)) ∧ wx.heap[w.heap.size + 1]? = some (.cells #[I 0, I 0] 30 (0, 0))) ∧ wx.heap[w2.heap.size]? = some (.cells #[I 0, I D3] 30 (0, 0))) := fun wx hx =>
    ⟨plan_boxes rfl rfl (e1.trans (e2.trans (((Ext.refl w2).alloc _).trans hx))), block_ext hx⟩
  obtain ⟨⟨⟨c0, c1, c2, c3⟩, rb⟩, sb⟩ := HB.out _ (Ext.refl _)
  obtain ⟨x0, x1, f0, f1⟩ := box_of rb (Ext.refl _)
  obtain ⟨y0, y1, -, -⟩ := box_of sb (Ext.refl _)
  have hvv : Ints (w2.alloc (.cells #[I 0, I D3] 30)) v xs := HV.out.ext (m2.alloc _)
  have hsz : w.heap.size + 1 < w2.heap.size := by
    have := (Array.getElem?_eq_some_iff.1 (plan_boxes rfl rfl (e1.trans e2)).2).1
    exact this
  have hfA := fun wx hw => hfind a wx hw
  rw [hfa, if_neg hat] at hfA
  have HP := Lib.hid hP
  rw [hDl] at hr1 ⊢
  have hne : ((l.length : Int) + 1 == (l.length : Int)) = false := by simp; omega
  clear hDl hP hfa hfo hfind HCE hat
  go_wp2_with (first
    | (go_at_call 19; refine Calls.same (hfA _ hvv) ?_)
    | (at_builtin; refine stop_at ?_))
  unfold Hid
  obtain ⟨i0, hi, hz0, hz1, hz2⟩ := info_parts Try.infoWrite2
  have hown : (((w2.alloc (.cells #[I 0, I D3] 30)).alloc (.cells #[I (2 * ((l.length : Int) + 1) - 1), I a, I (2 * ((l.length : Int) + 1)), I n] 43)).alloc (.cells #[I 0, I ((l.length : Int) + 1)] 43)).ownsRow (w2.heap.size + 1) 43 2 (.slice (some ⟨w2.heap.size + 1, 0, none⟩) 2 2) 2 (cells2 [(2 * ((l.length : Int) + 1) - 1, a), (2 * ((l.length : Int) + 1), n)]) := by
    have := World.ownsRow_lit (base := w2.heap.size + 1) (e := 43) (size := 2) (w2.alloc (.cells #[I 0, I D3] 30)) #[I (2 * ((l.length : Int) + 1) - 1), I a, I (2 * ((l.length : Int) + 1)), I n] 2 (by simp) (by decide) rfl
    have h2 := this.alloc (.cells #[I 0, I ((l.length : Int) + 1)] 43)
    simpa [cells2] using h2
  have hlit : Row (((w2.alloc (.cells #[I 0, I D3] 30)).alloc (.cells #[I (2 * ((l.length : Int) + 1) - 1), I a, I (2 * ((l.length : Int) + 1)), I n] 43)).alloc (.cells #[I 0, I ((l.length : Int) + 1)] 43)) 2 (.slice (some ⟨w2.heap.size + 1 + 1, 0, none⟩) 1 1) 1 (cells2 [(0, (l.length : Int) + 1)]) := by
    have := writes_lit (w := (w2.alloc (.cells #[I 0, I D3] 30)).alloc (.cells #[I (2 * ((l.length : Int) + 1) - 1), I a, I (2 * ((l.length : Int) + 1)), I n] 43)) 43 [(0, (l.length : Int) + 1)] #[I 0, I ((l.length : Int) + 1)] 1 rfl rfl (by decide)
    simpa [Writes] using this
  have hbase : w2.heap.size + 1 ≤ (((w2.alloc (.cells #[I 0, I D3] 30)).alloc (.cells #[I (2 * ((l.length : Int) + 1) - 1), I a, I (2 * ((l.length : Int) + 1)), I n] 43)).alloc (.cells #[I 0, I ((l.length : Int) + 1)] 43)).heap.size := by simp
  have exb := ((Ext.refl (w2.alloc (.cells #[I 0, I D3] 30))).alloc (.cells #[I (2 * ((l.length : Int) + 1) - 1), I a, I (2 * ((l.length : Int) + 1)), I n] 43)).alloc (.cells #[I 0, I ((l.length : Int) + 1)] 43)
  refine wpList_append_row _ rfl (.tmp 132) (.tmp 136) 28 rfl (w2.heap.size + 1) 43 i0 (.agg #[.int .i64 0, .int .i64 0]) 2 16 Try.underlying28 hi hz0 hz1 hz2 rfl (by decide) _ 2 (cells2 [(2 * ((l.length : Int) + 1) - 1, a), (2 * ((l.length : Int) + 1), n)]) rfl hown _ rfl 1 _ hlit (cells2_one _) (by omega) (by decide) hbase ?_
  intro v5 w5 ho5 hg5
  have ex5 : Ext (w2.alloc (.cells #[I 0, I D3] 30)) w5 := Ext.grown exb hg5 (fun j hj => by have := (hown.lt j hj).1; simpa using this)
  have hh5 : Has (w2.heap.size + 1) w5 v5 [(1 + 2 * (l.length : Int), a), (2 + 2 * (l.length : Int), n), (0, (l.length : Int) + 1)] := by
    have e : cells2 [(2 * ((l.length : Int) + 1) - 1, a), (2 * ((l.length : Int) + 1), n)] ++ cells2 [(0, (l.length : Int) + 1)] = cells2 [(1 + 2 * (l.length : Int), a), (2 + 2 * (l.length : Int), n), (0, (l.length : Int) + 1)] := by rw [← cells2_append]; simp [cells2]; omega
    rw [e] at ho5
    exact ⟨_, _, _, ho5, fun w2 h2 => writes_of_owns h2⟩
  obtain ⟨-, sb5⟩ := HB.out w5 ex5
  obtain ⟨s0, s1, -, -⟩ := box_of sb5 (Ext.refl _)
  clear ho5 hg5 hown hlit hi hz0 hz1 hz2 c0 c1 c2 c3 x0 x1 f0 f1 y0 y1 rb sb sb5 hbase exb
  go_wp2
  refine wp_region_mono_tail 3 [none, none, none] (by kernel_rfl) (by kernel_rfl) ?_ ?_
  · exact ⟨trivial, trivial, trivial, trivial⟩
  iterate 1 (refine wpM_p (fun K hK => ?_); go_simp; refine hK _ ?_; clear hK K)
  refine wpM_q (.agg #[I 0, I D3]) rfl (fun w' hw' => by have q0 := hw'.cell s0; have q1 := hw'.cell s1; go_simp) ?_
  iterate 1 (refine wpM_p (fun K hK => ?_); go_simp; refine hK _ ?_; clear hK K)
  refine wpM_nil ?_
  intro w4 he4' _
  have he4 := ex5.trans he4'
  have hr := hh5.ext he4'
  clear s0 s1
  obtain ⟨⟨-, rb4⟩, sb4⟩ := HB.out w4 he4
  obtain ⟨x0, x1, f0, f1⟩ := box_of rb4 (Ext.refl _)
  go_wp2
  obtain ⟨z0, z1, -, -⟩ := box_of (set2d rb4 (I 0) (I D3)) (Ext.refl _)
  clear x0 x1 f0 f1
  refine bodyPost_ret (by simp [results, Try.results9, go_sem, z0, z1]; rfl) rfl ?_
  exact plan_end HD.out hsz ((m2.alloc _).trans he4) (by rw [HP.out]; exact hr)


set_option maxRecDepth 100000 in
set_option maxHeartbeats 4000000 in
theorem rPlan_dropLast (v : Value) (xs : List Int) (a o n : Int) (w : World) (hv : Ints w v xs) (hx : Weak xs) (hc : wrongCl ⟨3, a, o, n⟩ = 0) (l : List (Int × Int)) (hL : ofCells xs (xs.getD 0 0).toNat = l) (D1 : List (Int × Int)) (D3 : Int) (hD : doR l ⟨3, a, o, n⟩ = (D1, ⟨0, D3⟩)) (hat : at1 l a + 1 = l.length) (hDl : D1.length = l.length - 1) (hP : planCl l ⟨3, a, o, n⟩ = [(0, (l.length : Int) - 1)]) :
    Calls Try.prog 9 #[v, .agg #[I 3, I a, I o, I n]] w fun e w' => PlansR w.heap.size l ⟨3, a, o, n⟩ e w' ∧ Ext w w' := by
  obtain ⟨hl11, hx0, hx5, hok⟩ := id hx
  have hln : l.length = (xs.getD 0 0).toNat := by rw [← hL, length_ofCells]
  have hl5 : l.length ≤ 5 := by omega
  rw [hL] at hok
  have hfind := fun nm wx (hw : Ints wx v xs) => refFind_any v xs nm wx hw hl11 hx0 hx5
  have hfa := find_at1 xs a (xs.getD 0 0).toNat
  rw [hL, ← hln] at hfa
  have hfo := find_at1 xs o (xs.getD 0 0).toNat
  rw [hL, ← hln] at hfo
  rw [← hln] at hfind
  have HL := Lib.hid hL
  have HD := Lib.hid hD
  have HX := Lib.hid hx
  have HOK := Lib.hid hok
  have HCW := Lib.hid hc
  have HV := Lib.hid hv
  clear hL hD hx hok hc hln hl11 hx0 hx5 hv
  have e0 : Ext w ((w.alloc (.cells #[I 3, I a, I o, I n] 24)).alloc (.cells #[I 0, I 0] 30)) := ((Ext.refl w).alloc _).alloc _
  go_enter Try.func9, Try.ntmps9
  go_wp2_with fail
  refine (refOfW_any v xs _ (HV.out.ext e0) HX.out.c).mono ?_
  rintro e w1 ⟨h1, rfl, e1, hw1⟩
  rw [HL.out] at hw1
  obtain ⟨⟨d0, d1, d2, d3⟩, -⟩ := plan_boxes rfl rfl e1
  obtain ⟨ao, cap, rfl, hq1, hq2, -⟩ := hw1.form
  unfold maxLen at hq2
  have HW1 := Lib.hid hw1
  clear hw1
  go_wp2_with fail
  refine (wDo_any _ l 3 a o n w1 HW1.out HOK.out HCW.out).mono ?_
  rintro e w2 ⟨⟨u, rfl, hu, -⟩, e2⟩
  rw [HD.out] at hu ⊢
  simp only [] at hu
  obtain ⟨bo, cap2, rfl, hr1, hr2, hcells⟩ := hu.form
  unfold maxLen at hr2
  have HU := Lib.hid hu
  have HCE := Lib.hid hcells
  clear d0 d1 d2 d3 hu hcells
  have m2 : Ext w w2 := e0.trans (e1.trans e2)
  have HB : Hid (∀ wx, Ext (w2.alloc (.cells #[I 0, I D3] 30)) wx → ((wx.cell? ⟨w.heap.size, 0, none⟩ = some (I 3) ∧ wx.cell? ⟨w.heap.size, 1, none⟩ = some (I a) ∧ wx.cell? ⟨w.heap.size, 2, none⟩ = some (I o) ∧ wx.cell? ⟨w.heap.size, 3, none⟩ = some (I n)) ∧ wx.heap[w.heap.size + 1]? = some (.cells #[I 0, I 0] 30 (0, 0))) ∧ wx.heap[w2.heap.size]? = some (.cells #[I 0, I D3] 30 (0, 0))) := fun wx hx =>
    ⟨plan_boxes rfl rfl (e1.trans (e2.trans (((Ext.refl w2).alloc _).trans hx))), block_ext hx⟩
  obtain ⟨⟨⟨c0, c1, c2, c3⟩, rb⟩, sb⟩ := HB.out _ (Ext.refl _)
  obtain ⟨x0, x1, f0, f1⟩ := box_of rb (Ext.refl _)
  obtain ⟨y0, y1, -, -⟩ := box_of sb (Ext.refl _)
  have hvv : Ints (w2.alloc (.cells #[I 0, I D3] 30)) v xs := HV.out.ext (m2.alloc _)
  have hsz : w.heap.size + 1 < w2.heap.size := by
    have := (Array.getElem?_eq_some_iff.1 (plan_boxes rfl rfl (e1.trans e2)).2).1
    exact this
  have hfA := fun wx hw => hfind a wx hw
  rw [hfa, if_pos (by omega)] at hfA
  have HP := Lib.hid hP
  obtain ⟨p, hp⟩ : ∃ p : Nat, l.length = p + 1 := ⟨l.length - 1, by omega⟩
  have hD1 : D1.length = p := by omega
  have ha1 : at1 l a = p := by omega
  rw [ha1] at hfA
  rw [hD1] at hr1 ⊢
  have HLP := Lib.hid hp
  rw [hp] at hq1 ⊢
  have hpl : ¬ (p : Int) < (p : Int) := by omega
  have hne : ((p : Int) == (p : Int) + 1) = false := by simp; omega
  have hp5 : p ≤ 4 := by omega
  clear hDl hP hfa hfo hfind HCE hat hD1 ha1 hp hl5
  go_wp2_with (first
    | (go_at_call 19; refine Calls.same (hfA _ hvv) ?_)
    | (at_builtin; refine stop_at ?_))
  unfold Hid
  obtain ⟨i0, hi, hz0, hz1, hz2⟩ := info_parts Try.infoWrite2
  have hown : ((w2.alloc (.cells #[I 0, I D3] 30)).alloc (.cells #[I 0, I p] 43)).ownsRow (w2.heap.size + 1) 43 2 (.slice none 0 0) 0 (cells2 []) := World.ownsRow_nil _ _ _ _
  have hlit : Row ((w2.alloc (.cells #[I 0, I D3] 30)).alloc (.cells #[I 0, I p] 43)) 2 (.slice (some ⟨w2.heap.size + 1, 0, none⟩) 1 1) 1 (cells2 [(0, (p : Int))]) := by
    have := writes_lit (w := (w2.alloc (.cells #[I 0, I D3] 30))) 43 [(0, (p : Int))] #[I 0, I p] 1 rfl rfl (by decide)
    simpa [Writes] using this
  have hbase : w2.heap.size + 1 ≤ ((w2.alloc (.cells #[I 0, I D3] 30)).alloc (.cells #[I 0, I p] 43)).heap.size := by simp
  have exb := (Ext.refl (w2.alloc (.cells #[I 0, I D3] 30))).alloc (.cells #[I 0, I p] 43)
  refine wpList_append_row _ rfl (.tmp 132) (.tmp 136) 28 rfl (w2.heap.size + 1) 43 i0 (.agg #[.int .i64 0, .int .i64 0]) 2 16 Try.underlying28 hi hz0 hz1 hz2 rfl (by decide) _ 0 (cells2 []) rfl hown _ rfl 1 _ hlit (cells2_one _) (by omega) (by decide) hbase ?_
  intro v5 w5 ho5 hg5
  have ex5 : Ext (w2.alloc (.cells #[I 0, I D3] 30)) w5 := Ext.grown exb hg5 (fun j hj => by have := (hown.lt j hj).1; simpa using this)
  have hh5 : Has (w2.heap.size + 1) w5 v5 [(0, (l.length : Int) - 1)] := by
    have e : cells2 [] ++ cells2 [(0, (p : Int))] = cells2 [(0, (l.length : Int) - 1)] := by rw [← cells2_append]; rw [HLP.out]; simp [cells2]
    rw [e] at ho5
    exact ⟨_, _, _, ho5, fun w2 h2 => writes_of_owns h2⟩
  obtain ⟨-, sb5⟩ := HB.out w5 ex5
  obtain ⟨s0, s1, -, -⟩ := box_of sb5 (Ext.refl _)
  clear ho5 hg5 hown hlit hi hz0 hz1 hz2 c0 c1 c2 c3 x0 x1 f0 f1 y0 y1 rb sb sb5 hbase exb
  go_wp2
  refine wp_region_mono_tail 3 [none, none, none] (by kernel_rfl) (by kernel_rfl) ?_ ?_
  · exact ⟨trivial, trivial, trivial, trivial⟩
  iterate 1 (refine wpM_p (fun K hK => ?_); go_simp; refine hK _ ?_; clear hK K)
  refine wpM_q (.agg #[I 0, I D3]) rfl (fun w' hw' => by have q0 := hw'.cell s0; have q1 := hw'.cell s1; go_simp) ?_
  iterate 1 (refine wpM_p (fun K hK => ?_); go_simp; refine hK _ ?_; clear hK K)
  refine wpM_nil ?_
  intro w4 he4' _
  have he4 := ex5.trans he4'
  have hr := hh5.ext he4'
  clear s0 s1
  obtain ⟨⟨-, rb4⟩, sb4⟩ := HB.out w4 he4
  obtain ⟨x0, x1, f0, f1⟩ := box_of rb4 (Ext.refl _)
  go_wp2
  obtain ⟨z0, z1, -, -⟩ := box_of (set2d rb4 (I 0) (I D3)) (Ext.refl _)
  clear x0 x1 f0 f1
  refine bodyPost_ret (by simp [results, Try.results9, go_sem, z0, z1]; rfl) rfl ?_
  exact plan_end HD.out hsz ((m2.alloc _).trans he4) (by rw [HP.out]; exact hr)


end Go.Proofs.Ytdmipnnfoolelab

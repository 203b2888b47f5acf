/- Walks over what the document says: which writes a call is, where none is an error. -/
import Derived.Test.YtdmipnnfoolelabD5
import Derived.Lib.Hide
namespace Go.Proofs.Ytdmipnnfoolelab
open Go.RowKit Go.Mk

/-- What is known when the document's Plan has asked Of, Do and Find. -/
theorem plan_boxes {w : World} {o1 o2 : Obj} {wx : World} {v0 v1 v2 v3 : Value} (h1 : o1 = .cells #[v0, v1, v2, v3] 24 (0, 0)) (h2 : o2 = .cells #[I 0, I 0] 30 (0, 0)) (hx : Ext ((w.alloc o1).alloc o2) wx) :
    (wx.cell? ⟨w.heap.size, 0, none⟩ = some v0 ∧ wx.cell? ⟨w.heap.size, 1, none⟩ = some v1 ∧ wx.cell? ⟨w.heap.size, 2, none⟩ = some v2 ∧ wx.cell? ⟨w.heap.size, 3, none⟩ = some v3) ∧ wx.heap[w.heap.size + 1]? = some (.cells #[I 0, I 0] 30 (0, 0)) := by
  subst h1 h2
  have p0 : ((w.alloc (.cells #[v0, v1, v2, v3] 24 (0, 0))).alloc (.cells #[I 0, I 0] 30 (0, 0))).heap[w.heap.size]? = some (.cells #[v0, v1, v2, v3] 24 (0, 0)) := by
    rw [heap_alloc_old _ _ (by simp)]; exact heap_alloc_new _ _
  have p1 : ((w.alloc (.cells #[v0, v1, v2, v3] 24 (0, 0))).alloc (.cells #[I 0, I 0] 30 (0, 0))).heap[w.heap.size + 1]? = some (.cells #[I 0, I 0] 30 (0, 0)) := by
    have := heap_alloc_new (w.alloc (.cells #[v0, v1, v2, v3] 24 (0, 0))) (.cells #[I 0, I 0] 30 (0, 0))
    simpa using this
  refine ⟨⟨hx.cell (cell_block p0 rfl), hx.cell (cell_block p0 rfl), hx.cell (cell_block p0 rfl), hx.cell (cell_block p0 rfl)⟩, ?_⟩
  rw [hx.block _ (by simp)]
  exact p1

theorem set2d {w : World} {b : Nat} {t : TypeId} {p q : Value} (h : w.heap[b]? = some (.cells #[p, q] t (0, 0))) (u v : Value) : ((w.setCell ⟨b, 0, none⟩ u).setCell ⟨b, 1, none⟩ v).heap[b]? = some (.cells #[u, v] t (0, 0)) := by
  have h1 := heap_setCell_same _ _ 0 _ _ u h
  have h2 := heap_setCell_same _ _ 1 _ _ v h1
  simpa using h2

theorem has_lit {w : World} (l : List (Int × Int)) (cs : Array Value) (n : Nat) (hc : cs.toList = cells2 l) (hn : l.length = n) (hm : n ≤ maxLen) (b : Nat) (hb : b ≤ w.heap.size) : Has b (w.alloc (.cells cs 43)) (.slice (some ⟨w.heap.size, 0, none⟩) n n) l := by
  subst hn
  have := World.ownsRow_lit (base := b) (e := 43) (size := 2) w cs l.length hb hm (by rw [← Array.length_toList, hc, length_cells2])
  rw [hc] at this
  exact ⟨_, _, l, this, fun w2 h2 => writes_of_owns h2⟩

/-- The end of the document's Plan: what is told is laid in its box. -/
theorem plan_end {w w2 w4 : World} {l : List (Int × Int)} {c : Cl} {D1 : List (Int × Int)} {D3 : Int} {u : Value} (hD : doR l c = (D1, ⟨0, D3⟩)) (hsz : w.heap.size + 1 < w2.heap.size) (m4 : Ext w w4) (hu : Has (w2.heap.size + 1) w4 u (planCl l c)) :
    PlansR w.heap.size l c (.returned (.tuple #[u, .agg #[I 0, I D3]])) ((w4.setCell ⟨w.heap.size + 1, 0, none⟩ (I 0)).setCell ⟨w.heap.size + 1, 1, none⟩ (I D3)) ∧ Ext w ((w4.setCell ⟨w.heap.size + 1, 0, none⟩ (I 0)).setCell ⟨w.heap.size + 1, 1, none⟩ (I D3)) := by
  refine ⟨⟨u, by rw [← doR_snd, hD], ?_⟩, (m4.setCell (by simp only []; omega) _).setCell (by simp only []; omega) _⟩
  exact ((hu.set (by omega) 0 (I 0)).set (by omega) 1 (I D3)).low (by omega)

set_option maxRecDepth 100000 in
set_option maxHeartbeats 4000000 in
theorem rPlan_get (v : Value) (xs : List Int) (a o n : Int) (w : World) (hv : Ints w v xs) (hx : Weak xs) (hc : wrongCl ⟨2, a, o, n⟩ = 0) (l : List (Int × Int)) (hL : ofCells xs (xs.getD 0 0).toNat = l) (D1 : List (Int × Int)) (D3 : Int) (hD : doR l ⟨2, a, o, n⟩ = (D1, ⟨0, D3⟩)) (hDl : D1 = l) (hP : planCl l ⟨2, a, o, n⟩ = []) :
    Calls Try.prog 9 #[v, .agg #[I 2, I a, I o, I n]] w fun e w' => PlansR w.heap.size l ⟨2, a, o, n⟩ e w' ∧ Ext w w' := by
  obtain ⟨hl11, hx0, hx5, hok⟩ := id hx
  have hln : l.length = (xs.getD 0 0).toNat := by rw [← hL, length_ofCells]
  have hl5 : l.length ≤ 5 := by omega
  rw [hL] at hok
  have hfind := fun nm wx (hw : Ints wx v xs) => refFind_any v xs nm wx hw hl11 hx0 hx5
  have hfa := find_at1 xs a (xs.getD 0 0).toNat
  rw [hL, ← hln] at hfa
  have hfo := find_at1 xs o (xs.getD 0 0).toNat
  rw [hL, ← hln] at hfo
  rw [← hln] at hfind
  have HL := Lib.hid hL
  have HD := Lib.hid hD
  have HX := Lib.hid hx
  have HOK := Lib.hid hok
  have HCW := Lib.hid hc
  have HV := Lib.hid hv
  clear hL hD hx hok hc hln hl11 hx0 hx5 hv
  have e0 : Ext w ((w.alloc (.cells #[I 2, I a, I o, I n] 24)).alloc (.cells #[I 0, I 0] 30)) := ((Ext.refl w).alloc _).alloc _
  go_enter Try.func9, Try.ntmps9
  go_wp2_with fail
  refine (refOfW_any v xs _ (HV.out.ext e0) HX.out.c).mono ?_
  rintro e w1 ⟨h1, rfl, e1, hw1⟩
  rw [HL.out] at hw1
  obtain ⟨⟨d0, d1, d2, d3⟩, -⟩ := plan_boxes rfl rfl e1
  obtain ⟨ao, cap, rfl, hq1, hq2, -⟩ := hw1.form
  unfold maxLen at hq2
  have HW1 := Lib.hid hw1
  clear hw1
  go_wp2_with fail
  refine (wDo_any _ l 2 a o n w1 HW1.out HOK.out HCW.out).mono ?_
  rintro e w2 ⟨⟨u, rfl, hu, -⟩, e2⟩
  rw [HD.out] at hu ⊢
  simp only [] at hu
  obtain ⟨bo, cap2, rfl, hr1, hr2, hcells⟩ := hu.form
  unfold maxLen at hr2
  have HU := Lib.hid hu
  have HCE := Lib.hid hcells
  clear d0 d1 d2 d3 hu hcells
  have m2 : Ext w w2 := e0.trans (e1.trans e2)
  have HB : Hid (∀ wx, Ext (w2.alloc (.cells #[I 0, I D3] 30)) wx → ((wx.cell? ⟨w.heap.size, 0, none⟩ = some (I 2) ∧ wx.cell? ⟨w.heap.size, 1, none⟩ = some (I a) ∧ wx.cell? ⟨w.heap.size, 2, none⟩ = some (I o) ∧ wx.cell? ⟨w.heap.size, 3, none⟩ = some (I n)) ∧ wx.heap[w.heap.size + 1]? = some (.cells #[I 0, I 0] 30 (0, 0))) ∧ wx.heap[w2.heap.size]? = some (.cells #[I 0, I D3] 30 (0, 0))) := fun wx hx =>
    ⟨plan_boxes rfl rfl (e1.trans (e2.trans (((Ext.refl w2).alloc _).trans hx))), block_ext hx⟩
  obtain ⟨⟨⟨c0, c1, c2, c3⟩, rb⟩, sb⟩ := HB.out _ (Ext.refl _)
  obtain ⟨x0, x1, f0, f1⟩ := box_of rb (Ext.refl _)
  obtain ⟨y0, y1, -, -⟩ := box_of sb (Ext.refl _)
  have hvv : Ints (w2.alloc (.cells #[I 0, I D3] 30)) v xs := HV.out.ext (m2.alloc _)
  have hsz : w.heap.size + 1 < w2.heap.size := by
    have := (Array.getElem?_eq_some_iff.1 (plan_boxes rfl rfl (e1.trans e2)).2).1
    exact this
  have hlen : D1.length = l.length := by rw [hDl]
  have HP := Lib.hid hP
  generalize findIn xs a l.length 0 = fa at *
  clear hDl hP
  rw [hlen]
  clear hlen
  go_wp2_with (go_at_call 19; refine Calls.same (hfind _ _ hvv) ?_)
  refine wp_region_mono_tail 3 [none, none, none] (by kernel_rfl) (by kernel_rfl) ?_ ?_
  · exact ⟨trivial, trivial, trivial, trivial⟩
  iterate 1 (refine wpM_p (fun K hK => ?_); go_simp; refine hK _ ?_; clear hK K)
  refine wpM_q (.agg #[I 0, I D3]) rfl (fun w' hw' => by have q0 := hw'.cell y0; have q1 := hw'.cell y1; go_simp) ?_
  iterate 1 (refine wpM_p (fun K hK => ?_); go_simp; refine hK _ ?_; clear hK K)
  refine wpM_nil ?_
  intro w4 he4 _
  have hr : Has (w2.heap.size + 1) w4 (.slice none 0 0) [] := Has.nil _ _
  clear c0 c1 c2 c3 x0 x1 f0 f1 y0 y1 rb sb
  obtain ⟨⟨-, rb4⟩, sb4⟩ := HB.out w4 he4
  obtain ⟨x0, x1, f0, f1⟩ := box_of rb4 (Ext.refl _)
  go_wp2
  obtain ⟨z0, z1, -, -⟩ := box_of (set2d rb4 (I 0) (I D3)) (Ext.refl _)
  clear x0 x1 f0 f1
  refine bodyPost_ret (by simp [results, Try.results9, go_sem, z0, z1]; rfl) rfl ?_
  exact plan_end HD.out hsz ((m2.alloc _).trans he4) (by rw [HP.out]; exact hr)


set_option maxRecDepth 100000 in
set_option maxHeartbeats 4000000 in
theorem rPlan_count (v : Value) (xs : List Int) (a o n : Int) (w : World) (hv : Ints w v xs) (hx : Weak xs) (hc : wrongCl ⟨5, a, o, n⟩ = 0) (l : List (Int × Int)) (hL : ofCells xs (xs.getD 0 0).toNat = l) (D1 : List (Int × Int)) (D3 : Int) (hD : doR l ⟨5, a, o, n⟩ = (D1, ⟨0, D3⟩)) (hDl : D1 = l) (hP : planCl l ⟨5, a, o, n⟩ = []) :
    Calls Try.prog 9 #[v, .agg #[I 5, I a, I o, I n]] w fun e w' => PlansR w.heap.size l ⟨5, a, o, n⟩ e w' ∧ Ext w w' := by
  obtain ⟨hl11, hx0, hx5, hok⟩ := id hx
  have hln : l.length = (xs.getD 0 0).toNat := by rw [← hL, length_ofCells]
  have hl5 : l.length ≤ 5 := by omega
  rw [hL] at hok
  have hfind := fun nm wx (hw : Ints wx v xs) => refFind_any v xs nm wx hw hl11 hx0 hx5
  have hfa := find_at1 xs a (xs.getD 0 0).toNat
  rw [hL, ← hln] at hfa
  have hfo := find_at1 xs o (xs.getD 0 0).toNat
  rw [hL, ← hln] at hfo
  rw [← hln] at hfind
  have HL := Lib.hid hL
  have HD := Lib.hid hD
  have HX := Lib.hid hx
  have HOK := Lib.hid hok
  have HCW := Lib.hid hc
  have HV := Lib.hid hv
  clear hL hD hx hok hc hln hl11 hx0 hx5 hv
  have e0 : Ext w ((w.alloc (.cells #[I 5, I a, I o, I n] 24)).alloc (.cells #[I 0, I 0] 30)) := ((Ext.refl w).alloc _).alloc _
  go_enter Try.func9, Try.ntmps9
  go_wp2_with fail
  refine (refOfW_any v xs _ (HV.out.ext e0) HX.out.c).mono ?_
  rintro e w1 ⟨h1, rfl, e1, hw1⟩
  rw [HL.out] at hw1
  obtain ⟨⟨d0, d1, d2, d3⟩, -⟩ := plan_boxes rfl rfl e1
  obtain ⟨ao, cap, rfl, hq1, hq2, -⟩ := hw1.form
  unfold maxLen at hq2
  have HW1 := Lib.hid hw1
  clear hw1
  go_wp2_with fail
  refine (wDo_any _ l 5 a o n w1 HW1.out HOK.out HCW.out).mono ?_
  rintro e w2 ⟨⟨u, rfl, hu, -⟩, e2⟩
  rw [HD.out] at hu ⊢
  simp only [] at hu
  obtain ⟨bo, cap2, rfl, hr1, hr2, hcells⟩ := hu.form
  unfold maxLen at hr2
  have HU := Lib.hid hu
  have HCE := Lib.hid hcells
  clear d0 d1 d2 d3 hu hcells
  have m2 : Ext w w2 := e0.trans (e1.trans e2)
  have HB : Hid (∀ wx, Ext (w2.alloc (.cells #[I 0, I D3] 30)) wx → ((wx.cell? ⟨w.heap.size, 0, none⟩ = some (I 5) ∧ wx.cell? ⟨w.heap.size, 1, none⟩ = some (I a) ∧ wx.cell? ⟨w.heap.size, 2, none⟩ = some (I o) ∧ wx.cell? ⟨w.heap.size, 3, none⟩ = some (I n)) ∧ wx.heap[w.heap.size + 1]? = some (.cells #[I 0, I 0] 30 (0, 0))) ∧ wx.heap[w2.heap.size]? = some (.cells #[I 0, I D3] 30 (0, 0))) := fun wx hx =>
    ⟨plan_boxes rfl rfl (e1.trans (e2.trans (((Ext.refl w2).alloc _).trans hx))), block_ext hx⟩
  obtain ⟨⟨⟨c0, c1, c2, c3⟩, rb⟩, sb⟩ := HB.out _ (Ext.refl _)
  obtain ⟨x0, x1, f0, f1⟩ := box_of rb (Ext.refl _)
  obtain ⟨y0, y1, -, -⟩ := box_of sb (Ext.refl _)
  have hvv : Ints (w2.alloc (.cells #[I 0, I D3] 30)) v xs := HV.out.ext (m2.alloc _)
  have hsz : w.heap.size + 1 < w2.heap.size := by
    have := (Array.getElem?_eq_some_iff.1 (plan_boxes rfl rfl (e1.trans e2)).2).1
    exact this
  have hlen : D1.length = l.length := by rw [hDl]
  have HP := Lib.hid hP
  generalize findIn xs a l.length 0 = fa at *
  clear hDl hP
  rw [hlen]
  clear hlen
  go_wp2_with (go_at_call 19; refine Calls.same (hfind _ _ hvv) ?_)
  refine wp_region_mono_tail 3 [none, none, none] (by kernel_rfl) (by kernel_rfl) ?_ ?_
  · exact ⟨trivial, trivial, trivial, trivial⟩
  iterate 1 (refine wpM_p (fun K hK => ?_); go_simp; refine hK _ ?_; clear hK K)
  refine wpM_q (.agg #[I 0, I D3]) rfl (fun w' hw' => by have q0 := hw'.cell y0; have q1 := hw'.cell y1; go_simp) ?_
  iterate 1 (refine wpM_p (fun K hK => ?_); go_simp; refine hK _ ?_; clear hK K)
  refine wpM_nil ?_
  intro w4 he4 _
  have hr : Has (w2.heap.size + 1) w4 (.slice none 0 0) [] := Has.nil _ _
  clear c0 c1 c2 c3 x0 x1 f0 f1 y0 y1 rb sb
  obtain ⟨⟨-, rb4⟩, sb4⟩ := HB.out w4 he4
  obtain ⟨x0, x1, f0, f1⟩ := box_of rb4 (Ext.refl _)
  go_wp2
  obtain ⟨z0, z1, -, -⟩ := box_of (set2d rb4 (I 0) (I D3)) (Ext.refl _)
  clear x0 x1 f0 f1
  refine bodyPost_ret (by simp [results, Try.results9, go_sem, z0, z1]; rfl) rfl ?_
  exact plan_end HD.out hsz ((m2.alloc _).trans he4) (by rw [HP.out]; exact hr)



set_option maxRecDepth 100000 in
set_option maxHeartbeats 4000000 in
theorem rPlan_put (v : Value) (xs : List Int) (a o n : Int) (w : World) (hv : Ints w v xs) (hx : Weak xs) (hc : wrongCl ⟨1, a, o, n⟩ = 0) (l : List (Int × Int)) (hL : ofCells xs (xs.getD 0 0).toNat = l) (D1 : List (Int × Int)) (D3 : Int) (hD : doR l ⟨1, a, o, n⟩ = (D1, ⟨0, D3⟩)) (hat : at1 l a < l.length) (hDl : D1.length = l.length) (m : Int) (hm : (D1.getD (at1 l a) (0, 0)).2 = m) (hP : planCl l ⟨1, a, o, n⟩ = [(2 + 2 * (at1 l a : Int), m)]) :
    Calls Try.prog 9 #[v, .agg #[I 1, I a, I o, I n]] w fun e w' => PlansR w.heap.size l ⟨1, a, o, n⟩ e w' ∧ Ext w w' := by
  obtain ⟨hl11, hx0, hx5, hok⟩ := id hx
  have hln : l.length = (xs.getD 0 0).toNat := by rw [← hL, length_ofCells]
  have hl5 : l.length ≤ 5 := by omega
  rw [hL] at hok
  have hfind := fun nm wx (hw : Ints wx v xs) => refFind_any v xs nm wx hw hl11 hx0 hx5
  have hfa := find_at1 xs a (xs.getD 0 0).toNat
  rw [hL, ← hln] at hfa
  have hfo := find_at1 xs o (xs.getD 0 0).toNat
  rw [hL, ← hln] at hfo
  rw [← hln] at hfind
  have HL := Lib.hid hL
  have HD := Lib.hid hD
  have HX := Lib.hid hx
  have HOK := Lib.hid hok
  have HCW := Lib.hid hc
  have HV := Lib.hid hv
  clear hL hD hx hok hc hln hl11 hx0 hx5 hv
  have e0 : Ext w ((w.alloc (.cells #[I 1, I a, I o, I n] 24)).alloc (.cells #[I 0, I 0] 30)) := ((Ext.refl w).alloc _).alloc _
  go_enter Try.func9, Try.ntmps9
  go_wp2_with fail
  refine (refOfW_any v xs _ (HV.out.ext e0) HX.out.c).mono ?_
  rintro e w1 ⟨h1, rfl, e1, hw1⟩
  rw [HL.out] at hw1
  obtain ⟨⟨d0, d1, d2, d3⟩, -⟩ := plan_boxes rfl rfl e1
  obtain ⟨ao, cap, rfl, hq1, hq2, -⟩ := hw1.form
  unfold maxLen at hq2
  have HW1 := Lib.hid hw1
  clear hw1
  go_wp2_with fail
  refine (wDo_any _ l 1 a o n w1 HW1.out HOK.out HCW.out).mono ?_
  rintro e w2 ⟨⟨u, rfl, hu, -⟩, e2⟩
  rw [HD.out] at hu ⊢
  simp only [] at hu
  obtain ⟨bo, cap2, rfl, hr1, hr2, hcells⟩ := hu.form
  unfold maxLen at hr2
  have HU := Lib.hid hu
  have HCE := Lib.hid hcells
  clear d0 d1 d2 d3 hu hcells
  have m2 : Ext w w2 := e0.trans (e1.trans e2)
  have HB : Hid (∀ wx, Ext (w2.alloc (.cells #[I 0, I D3] 30)) wx → ((wx.cell? ⟨w.heap.size, 0, none⟩ = some (I 1) ∧ wx.cell? ⟨w.heap.size, 1, none⟩ = some (I a) ∧ wx.cell? ⟨w.heap.size, 2, none⟩ = some (I o) ∧ wx.cell? ⟨w.heap.size, 3, none⟩ = some (I n)) ∧ wx.heap[w.heap.size + 1]? = some (.cells #[I 0, I 0] 30 (0, 0))) ∧ wx.heap[w2.heap.size]? = some (.cells #[I 0, I D3] 30 (0, 0))) := fun wx hx =>
    ⟨plan_boxes rfl rfl (e1.trans (e2.trans (((Ext.refl w2).alloc _).trans hx))), block_ext hx⟩
  obtain ⟨⟨⟨c0, c1, c2, c3⟩, rb⟩, sb⟩ := HB.out _ (Ext.refl _)
  obtain ⟨x0, x1, f0, f1⟩ := box_of rb (Ext.refl _)
  obtain ⟨y0, y1, -, -⟩ := box_of sb (Ext.refl _)
  have hvv : Ints (w2.alloc (.cells #[I 0, I D3] 30)) v xs := HV.out.ext (m2.alloc _)
  have hsz : w.heap.size + 1 < w2.heap.size := by
    have := (Array.getElem?_eq_some_iff.1 (plan_boxes rfl rfl (e1.trans e2)).2).1
    exact this
  have hfA := fun wx hw => hfind a wx hw
  rw [hfa, if_pos hat] at hfA
  have HP := Lib.hid hP
  obtain ⟨b, off, rfl, -, ce⟩ := HCE.out (at1 l a) (by omega)
  rw [hm] at ce
  have ce' := ((Ext.refl w2).alloc (.cells #[I 0, I D3] 30)).cell ce
  rw [hDl]
  generalize at1 l a = i at *
  have hi1 : (i : Int) < (l.length : Int) := by omega
  have hi0 : ¬ (i : Int) < 0 := by omega
  have hw1 : IntKind.i64.wrap (2 * (i : Int)) = 2 * i := by rw [IntKind.wrap_i64]; omega
  have hw2 : IntKind.i64.wrap (2 + 2 * (i : Int)) = 2 + 2 * i := by rw [IntKind.wrap_i64]; omega
  clear hDl hP hm hfa hfo hfind HCE
  go_wp2_with (go_at_call 19; refine Calls.same (hfA _ hvv) ?_)
  refine wp_region_mono_tail 12 [none, none, none, none, none, none, none, none, none, some (.inr fun v wx => Has (w2.heap.size + 1) wx v [(2 + 2 * (i : Int), m)]), none, none] (by kernel_rfl) (by kernel_rfl) ?_ ?_
  · exact ⟨trivial, trivial, trivial, trivial, trivial, trivial, trivial, trivial, trivial, monoHas _ _, trivial, trivial, trivial⟩
  iterate 7 (refine wpM_p (fun K hK => ?_); go_simp; refine hK _ ?_; clear hK K)
  refine wpM_q (I m) rfl (fun w' hw' => by have q0 := hw'.cell ce'; go_simp) ?_
  iterate 1 (refine wpM_p (fun K hK => ?_); go_simp; refine hK _ ?_; clear hK K)
  refine wpM_l _ rfl (fun w' hw' _ => ?_) (fun v125 => ?_)
  · unfold makes
    go_simp
    exact ⟨(Ext.refl _).alloc _, has_lit [(2 + 2 * (i : Int), m)] _ 1 rfl rfl (by decide) _ (by have := hw'.size; simpa using this)⟩
  refine wpM_q (.agg #[I 0, I D3]) rfl (fun w' hw' => by have q0 := hw'.cell y0; have q1 := hw'.cell y1; go_simp) ?_
  iterate 1 (refine wpM_p (fun K hK => ?_); go_simp; refine hK _ ?_; clear hK K)
  refine wpM_nil ?_
  intro w4 he4 hF
  have hr : Has (w2.heap.size + 1) w4 v125 [(2 + 2 * (i : Int), m)] := hF 125
  clear c0 c1 c2 c3 x0 x1 f0 f1 y0 y1 rb sb hF ce ce' hw1 hw2
  obtain ⟨⟨-, rb4⟩, sb4⟩ := HB.out w4 he4
  obtain ⟨x0, x1, f0, f1⟩ := box_of rb4 (Ext.refl _)
  go_wp2
  obtain ⟨z0, z1, -, -⟩ := box_of (set2d rb4 (I 0) (I D3)) (Ext.refl _)
  clear x0 x1 f0 f1
  refine bodyPost_ret (by simp [results, Try.results9, go_sem, z0, z1]; rfl) rfl ?_
  exact plan_end HD.out hsz ((m2.alloc _).trans he4) (by rw [HP.out]; exact hr)

set_option maxRecDepth 100000 in
set_option maxHeartbeats 4000000 in
theorem rPlan_add (v : Value) (xs : List Int) (a o n : Int) (w : World) (hv : Ints w v xs) (hx : Weak xs) (hc : wrongCl ⟨4, a, o, n⟩ = 0) (l : List (Int × Int)) (hL : ofCells xs (xs.getD 0 0).toNat = l) (D1 : List (Int × Int)) (D3 : Int) (hD : doR l ⟨4, a, o, n⟩ = (D1, ⟨0, D3⟩)) (hat : at1 l a < l.length) (hDl : D1.length = l.length) (m : Int) (hm : (D1.getD (at1 l a) (0, 0)).2 = m) (hP : planCl l ⟨4, a, o, n⟩ = [(2 + 2 * (at1 l a : Int), m)]) :
    Calls Try.prog 9 #[v, .agg #[I 4, I a, I o, I n]] w fun e w' => PlansR w.heap.size l ⟨4, a, o, n⟩ e w' ∧ Ext w w' := by
  obtain ⟨hl11, hx0, hx5, hok⟩ := id hx
  have hln : l.length = (xs.getD 0 0).toNat := by rw [← hL, length_ofCells]
  have hl5 : l.length ≤ 5 := by omega
  rw [hL] at hok
  have hfind := fun nm wx (hw : Ints wx v xs) => refFind_any v xs nm wx hw hl11 hx0 hx5
  have hfa := find_at1 xs a (xs.getD 0 0).toNat
  rw [hL, ← hln] at hfa
  have hfo := find_at1 xs o (xs.getD 0 0).toNat
  rw [hL, ← hln] at hfo
  rw [← hln] at hfind
  have HL := Lib.hid hL
  have HD := Lib.hid hD
  have HX := Lib.hid hx
  have HOK := Lib.hid hok
  have HCW := Lib.hid hc
  have HV := Lib.hid hv
  clear hL hD hx hok hc hln hl11 hx0 hx5 hv
  have e0 : Ext w ((w.alloc (.cells #[I 4, I a, I o, I n] 24)).alloc (.cells #[I 0, I 0] 30)) := ((Ext.refl w).alloc _).alloc _
  go_enter Try.func9, Try.ntmps9
  go_wp2_with fail
  refine (refOfW_any v xs _ (HV.out.ext e0) HX.out.c).mono ?_
  rintro e w1 ⟨h1, rfl, e1, hw1⟩
  rw [HL.out] at hw1
  obtain ⟨⟨d0, d1, d2, d3⟩, -⟩ := plan_boxes rfl rfl e1
  obtain ⟨ao, cap, rfl, hq1, hq2, -⟩ := hw1.form
  unfold maxLen at hq2
  have HW1 := Lib.hid hw1
  clear hw1
  go_wp2_with fail
  refine (wDo_any _ l 4 a o n w1 HW1.out HOK.out HCW.out).mono ?_
  rintro e w2 ⟨⟨u, rfl, hu, -⟩, e2⟩
  rw [HD.out] at hu ⊢
  simp only [] at hu
  obtain ⟨bo, cap2, rfl, hr1, hr2, hcells⟩ := hu.form
  unfold maxLen at hr2
  have HU := Lib.hid hu
  have HCE := Lib.hid hcells
  clear d0 d1 d2 d3 hu hcells
  have m2 : Ext w w2 := e0.trans (e1.trans e2)
  have HB : Hid (∀ wx, Ext (w2.alloc (.cells #[I 0, I D3] 30)) wx → ((wx.cell? ⟨w.heap.size, 0, none⟩ = some (I 4) ∧ wx.cell? ⟨w.heap.size, 1, none⟩ = some (I a) ∧ wx.cell? ⟨w.heap.size, 2, none⟩ = some (I o) ∧ wx.cell? ⟨w.heap.size, 3, none⟩ = some (I n)) ∧ wx.heap[w.heap.size + 1]? = some (.cells #[I 0, I 0] 30 (0, 0))) ∧ wx.heap[w2.heap.size]? = some (.cells #[I 0, I D3] 30 (0, 0))) := fun wx hx =>
    ⟨plan_boxes rfl rfl (e1.trans (e2.trans (((Ext.refl w2).alloc _).trans hx))), block_ext hx⟩
  obtain ⟨⟨⟨c0, c1, c2, c3⟩, rb⟩, sb⟩ := HB.out _ (Ext.refl _)
  obtain ⟨x0, x1, f0, f1⟩ := box_of rb (Ext.refl _)
  obtain ⟨y0, y1, -, -⟩ := box_of sb (Ext.refl _)
  have hvv : Ints (w2.alloc (.cells #[I 0, I D3] 30)) v xs := HV.out.ext (m2.alloc _)
  have hsz : w.heap.size + 1 < w2.heap.size := by
    have := (Array.getElem?_eq_some_iff.1 (plan_boxes rfl rfl (e1.trans e2)).2).1
    exact this
  have hfA := fun wx hw => hfind a wx hw
  rw [hfa, if_pos hat] at hfA
  have HP := Lib.hid hP
  obtain ⟨b, off, rfl, -, ce⟩ := HCE.out (at1 l a) (by omega)
  rw [hm] at ce
  have ce' := ((Ext.refl w2).alloc (.cells #[I 0, I D3] 30)).cell ce
  rw [hDl]
  generalize at1 l a = i at *
  have hi1 : (i : Int) < (l.length : Int) := by omega
  have hi0 : ¬ (i : Int) < 0 := by omega
  have hw1 : IntKind.i64.wrap (2 * (i : Int)) = 2 * i := by rw [IntKind.wrap_i64]; omega
  have hw2 : IntKind.i64.wrap (2 + 2 * (i : Int)) = 2 + 2 * i := by rw [IntKind.wrap_i64]; omega
  clear hDl hP hm hfa hfo hfind HCE
  go_wp2_with (go_at_call 19; refine Calls.same (hfA _ hvv) ?_)
  refine wp_region_mono_tail 12 [none, none, none, none, none, none, none, none, none, some (.inr fun v wx => Has (w2.heap.size + 1) wx v [(2 + 2 * (i : Int), m)]), none, none] (by kernel_rfl) (by kernel_rfl) ?_ ?_
  · exact ⟨trivial, trivial, trivial, trivial, trivial, trivial, trivial, trivial, trivial, monoHas _ _, trivial, trivial, trivial⟩
  iterate 7 (refine wpM_p (fun K hK => ?_); go_simp; refine hK _ ?_; clear hK K)
  refine wpM_q (I m) rfl (fun w' hw' => by have q0 := hw'.cell ce'; go_simp) ?_
  iterate 1 (refine wpM_p (fun K hK => ?_); go_simp; refine hK _ ?_; clear hK K)
  refine wpM_l _ rfl (fun w' hw' _ => ?_) (fun v125 => ?_)
  · unfold makes
    go_simp
    exact ⟨(Ext.refl _).alloc _, has_lit [(2 + 2 * (i : Int), m)] _ 1 rfl rfl (by decide) _ (by have := hw'.size; simpa using this)⟩
  refine wpM_q (.agg #[I 0, I D3]) rfl (fun w' hw' => by have q0 := hw'.cell y0; have q1 := hw'.cell y1; go_simp) ?_
  iterate 1 (refine wpM_p (fun K hK => ?_); go_simp; refine hK _ ?_; clear hK K)
  refine wpM_nil ?_
  intro w4 he4 hF
  have hr : Has (w2.heap.size + 1) w4 v125 [(2 + 2 * (i : Int), m)] := hF 125
  clear c0 c1 c2 c3 x0 x1 f0 f1 y0 y1 rb sb hF ce ce' hw1 hw2
  obtain ⟨⟨-, rb4⟩, sb4⟩ := HB.out w4 he4
  obtain ⟨x0, x1, f0, f1⟩ := box_of rb4 (Ext.refl _)
  go_wp2
  obtain ⟨z0, z1, -, -⟩ := box_of (set2d rb4 (I 0) (I D3)) (Ext.refl _)
  clear x0 x1 f0 f1
  refine bodyPost_ret (by simp [results, Try.results9, go_sem, z0, z1]; rfl) rfl ?_
  exact plan_end HD.out hsz ((m2.alloc _).trans he4) (by rw [HP.out]; exact hr)

end Go.Proofs.Ytdmipnnfoolelab

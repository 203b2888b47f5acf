/- Walks over what the document says: which writes a call is. -/
import Derived.Test.YtdmipnnfoolelabR7
import Derived.Test.YtdmipnnfoolelabD4
import Derived.Test.YtdmipnnfoolelabMath5
namespace Go.Proofs.Ytdmipnnfoolelab
open Go.RowKit Go.Mk

/-- What the document's Plan hands back. -/
def PlansR (base : Nat) (l : List (Int × Int)) (c : Cl) (e : Ending) (w : World) : Prop := ∃ u, e = .returned (.tuple #[u, (doCl l c).2.val]) ∧ Has base w u (planCl l c)

set_option maxRecDepth 100000 in
set_option maxHeartbeats 2000000 in
theorem rPlan_err (v : Value) (xs : List Int) (k a o n : Int) (w : World) (hv : Ints w v xs) (hx : Weak xs) (hc : wrongCl ⟨k, a, o, n⟩ = 0) (he : (doCl (ofCells xs (xs.getD 0 0).toNat) ⟨k, a, o, n⟩).2.err ≠ 0) :
    Calls Try.prog 9 #[v, .agg #[I k, I a, I o, I n]] w fun e w' => PlansR w.heap.size (ofCells xs (xs.getD 0 0).toNat) ⟨k, a, o, n⟩ e w' ∧ Ext w w' := by
  obtain ⟨_, _, _, hok⟩ := id hx
  have hP : planCl (ofCells xs (xs.getD 0 0).toNat) ⟨k, a, o, n⟩ = [] := if_pos he
  generalize hL : ofCells xs (xs.getD 0 0).toNat = l at *
  have HL : Hid (ofCells xs (xs.getD 0 0).toNat = l) := hL
  have HP : Hid (planCl l ⟨k, a, o, n⟩ = []) := hP
  rw [← doR_snd] at he
  clear hP hL
  have HC : Hid (∀ wx, Ext ((w.alloc (.cells #[I k, I a, I o, I n] 24)).alloc (.cells #[I 0, I 0] 30)) wx → (wx.cell? ⟨w.heap.size, 0, none⟩ = some (I k) ∧ wx.cell? ⟨w.heap.size, 1, none⟩ = some (I a) ∧ wx.cell? ⟨w.heap.size, 2, none⟩ = some (I o) ∧ wx.cell? ⟨w.heap.size, 3, none⟩ = some (I n)) ∧
      wx.heap[w.heap.size + 1]? = some (.cells #[I 0, I 0] 30)) := fun wx hx => by
    have p0 : ((w.alloc (.cells #[I k, I a, I o, I n] 24)).alloc (.cells #[I 0, I 0] 30)).heap[w.heap.size]? = some (.cells #[I k, I a, I o, I n] 24) := by
      rw [heap_alloc_old _ _ (by simp)]; exact heap_alloc_new _ _
    have p1 : ((w.alloc (.cells #[I k, I a, I o, I n] 24)).alloc (.cells #[I 0, I 0] 30)).heap[w.heap.size + 1]? = some (.cells #[I 0, I 0] 30) := by
      have := heap_alloc_new (w.alloc (.cells #[I k, I a, I o, I n] 24)) (.cells #[I 0, I 0] 30)
      simpa using this
    refine ⟨⟨hx.cell (cell_block p0 rfl), hx.cell (cell_block p0 rfl), hx.cell (cell_block p0 rfl), hx.cell (cell_block p0 rfl)⟩, ?_⟩
    rw [hx.block _ (by simp)]
    exact p1
  have e0 : Ext w ((w.alloc (.cells #[I k, I a, I o, I n] 24)).alloc (.cells #[I 0, I 0] 30)) := ((Ext.refl w).alloc _).alloc _
  go_enter Try.func9, Try.ntmps9
  go_wp2_with fail
  refine (refOfW_any v xs _ (hv.ext e0) hx.c).mono ?_
  rintro e w1 ⟨h1, rfl, e1, hw1⟩
  rw [HL.out] at hw1
  obtain ⟨⟨d0, d1, d2, d3⟩, _⟩ := HC.out w1 e1
  go_wp2_with fail
  refine (wDo_any h1 l k a o n w1 hw1 hok hc).mono ?_
  rintro e w2 ⟨⟨u, rfl, _, _⟩, e2⟩
  clear d0 d1 d2 d3
  generalize hD : doR l ⟨k, a, o, n⟩ = D at *
  have HD : Hid (doR l ⟨k, a, o, n⟩ = D) := hD
  clear hD
  obtain ⟨D1, D2, D3⟩ := D
  simp only [] at he
  have hb : (D2 != 0) = true := by simpa using he
  clear he
  obtain ⟨_, hbx⟩ := HC.out (w2.alloc (.cells #[I D2, I D3] 30)) (e1.trans (e2.trans ((Ext.refl w2).alloc _)))
  have m3 := e0.trans (e1.trans (e2.trans ((Ext.refl w2).alloc (.cells #[I D2, I D3] 30))))
  obtain ⟨x0, x1, f0, f1⟩ := box_of hbx (Ext.refl _)
  obtain ⟨_, hbx2⟩ := HC.out w2 (e1.trans e2)
  obtain ⟨y0, y1, g0, g1⟩ := box_of hbx2 (Ext.refl _)
  have hbs : w.heap.size + 1 < w2.heap.size := (Array.getElem?_eq_some_iff.1 hbx2).1
  go_wp2_with fail
  go_region
  have hm : Ext w w2 := e0.trans (e1.trans e2)
  have hend : Ext w (((w2.setCell ⟨w.heap.size + 1, 0, none⟩ (I D2)).setCell ⟨w.heap.size + 1, 1, none⟩ (I D3)).alloc (.cells #[I D2, I D3] 30)).drew := (((hm.setCell (by simp only []; omega) _).setCell (by simp only []; omega) _).alloc _).drew
  go_wp2
  try simp only [Exit.inBlock, Exit.then]
  refine bodyPost_ret (by simp [results, Try.results9, go_sem, y0, y1, hbs]; rfl) rfl ?_
  refine ⟨⟨.slice none 0 0, ?_, ?_⟩, hend⟩
  · rw [← doR_snd, HD.out]
  · rw [HP.out]; exact Has.nil _ _

end Go.Proofs.Ytdmipnnfoolelab

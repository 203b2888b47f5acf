/- Walks: what the document says a call does: counting, putting, getting. -/
import Derived.Test.YtdmipnnfoolelabR2
namespace Go.Proofs.Ytdmipnnfoolelab
open Go.RowKit Go.Mk

set_option maxRecDepth 100000 in
set_option maxHeartbeats 2000000 in
theorem wDo_count (v : Value) (l : List (Int × Int)) (a o n : Int) (w : World) (hv : Writes w v l) (hl : Okw l) :
    Calls Try.prog 13 #[v, .agg #[I 5, I a, I o, I n]] w fun e w' => DoesW w v l ⟨5, a, o, n⟩ e w' ∧ Ext w w' := by
  have hmf := func_mk
  have hl5 := hl.len
  obtain ⟨ao, cap, rfl, g1, g2, g3⟩ := hv.form
  unfold maxLen at g2
  have H3 : Hid _ := g3
  clear g3
  go_enter Try.func13, Try.ntmps13
  go_wp2_with fail
  refine Calls.exts (rget_any _ l a _ (hv.ext ((((Ext.refl w).alloc _).alloc _).alloc _))) (fun w1 e1 => ?_)
  obtain ⟨s0, q0, q1, q2, q3, x0, x1, hbx, hw1⟩ := rbox w1 e1
  obtain ⟨_, _, f0, f1⟩ := box_of hbx (Ext.refl w1)
  have hv1 := hv.ext hw1
  have hbs : w.heap.size + 1 + 1 < w1.heap.size := (Array.getElem?_eq_some_iff.1 hbx).1
  go_wp2_with fail
  go_region
  go_wp2
  try simp only [Exit.inBlock, Exit.then]
  refine bodyPost_ret (by simp [results, Try.results13, go_sem, x0, x1]; rfl) rfl ?_
  exact ⟨doesW_same (r := ⟨0, l.length⟩) (by rw [doR_count]) hv ((hw1.setCell (by simp only []; omega) _).setCell (by simp only []; omega) _).drew, ((hw1.setCell (by simp only []; omega) _).setCell (by simp only []; omega) _).drew⟩

set_option maxRecDepth 100000 in
set_option maxHeartbeats 2000000 in
theorem wDo_put (v : Value) (l : List (Int × Int)) (a o n : Int) (w : World) (hv : Writes w v l) (hl : Okw l) :
    Calls Try.prog 13 #[v, .agg #[I 1, I a, I o, I n]] w fun e w' => DoesW w v l ⟨1, a, o, n⟩ e w' ∧ Ext w w' := by
  have hmf := func_mk
  have hl5 := hl.len
  obtain ⟨ao, cap, rfl, g1, g2, g3⟩ := hv.form
  unfold maxLen at g2
  have H3 : Hid _ := g3
  clear g3
  go_enter Try.func13, Try.ntmps13
  go_wp2_with fail
  refine Calls.exts (rget_any _ l a _ (hv.ext ((((Ext.refl w).alloc _).alloc _).alloc _))) (fun w1 e1 => ?_)
  obtain ⟨s0, q0, q1, q2, q3, x0, x1, hbx, hw1⟩ := rbox w1 e1
  obtain ⟨_, _, f0, f1⟩ := box_of hbx (Ext.refl w1)
  have hv1 := hv.ext hw1
  have hbs : w.heap.size + 1 + 1 < w1.heap.size := (Array.getElem?_eq_some_iff.1 hbx).1
  by_cases ha : at1 l a < l.length
  case neg =>
    have hz := isR_none ha
    have hz2 := getR_none ha
    rw [hz, hz2]
    clear hz hz2
    by_cases h5 : 5 ≤ l.length
    · have h5' : (5 : Int) ≤ (l.length : Int) := by omega
      go_wp2_with fail
      refine Calls.exts (rno_any _ _ _ _ s0 (cell_lt s0)) (fun w2 e2 => ?_)
      obtain ⟨x0, x1, f0, f1⟩ := box_of hbx e2
      have m2 := hw1.trans e2
      go_wp2
      try simp only [Exit.inBlock, Exit.then]
      refine bodyPost_ret (by simp [results, Try.results13, go_sem, x0, x1]; rfl) rfl ?_
      exact ⟨doesW_same (r := ⟨9, 0⟩) (by rw [doR_put, if_neg ha, if_pos h5]) hv ((m2.setCell (by simp only []; omega) _).setCell (by simp only []; omega) _), (m2.setCell (by simp only []; omega) _).setCell (by simp only []; omega) _⟩
    · have h5' : (l.length : Int) < 5 := by omega
      go_wp2_with fail
      refine (rset_any _ l a n _ hv1 (by omega)).mono ?_
      rintro e w2 ⟨r, rfl, e2, hr2⟩
      rw [setX_last ha] at hr2
      obtain ⟨x0, x1, f0, f1⟩ := box_of hbx e2
      have m2 := hw1.trans e2
      go_wp2
      try simp only [Exit.inBlock, Exit.then]
      refine bodyPost_ret (by simp [results, Try.results13, go_sem, x0, x1]; rfl) rfl ?_
      exact ⟨doesW_new (r := ⟨0, 0⟩) (by rw [doR_put, if_neg ha, if_neg h5]) ((hr2.set hbs _ _).set hbs _ _) hw1.size, (m2.setCell (by simp only []; omega) _).setCell (by simp only []; omega) _⟩
  have hz := isR_hit ha
  have hz2 := getR_hit ha
  rw [hz, hz2]
  clear hz hz2
  go_wp2_with fail
  refine (rset_any _ l a n _ hv1 (by omega)).mono ?_
  rintro e w2 ⟨r, rfl, e2, hr2⟩
  rw [setX_hit ha] at hr2
  obtain ⟨x0, x1, f0, f1⟩ := box_of hbx e2
  have m2 := hw1.trans e2
  go_wp2
  try simp only [Exit.inBlock, Exit.then]
  refine bodyPost_ret (by simp [results, Try.results13, go_sem, x0, x1]; rfl) rfl ?_
  exact ⟨doesW_new (r := ⟨0, num l (at1 l a)⟩) (by rw [doR_put, if_pos ha]) ((hr2.set hbs _ _).set hbs _ _) hw1.size, (m2.setCell (by simp only []; omega) _).setCell (by simp only []; omega) _⟩

set_option maxRecDepth 100000 in
set_option maxHeartbeats 2000000 in
theorem wDo_get (v : Value) (l : List (Int × Int)) (a o n : Int) (w : World) (hv : Writes w v l) (hl : Okw l) (ha : at1 l a < l.length) :
    Calls Try.prog 13 #[v, .agg #[I 2, I a, I o, I n]] w fun e w' => DoesW w v l ⟨2, a, o, n⟩ e w' ∧ Ext w w' := by
  have hmf := func_mk
  have hl5 := hl.len
  obtain ⟨ao, cap, rfl, g1, g2, g3⟩ := hv.form
  unfold maxLen at g2
  have H3 : Hid _ := g3
  clear g3
  go_enter Try.func13, Try.ntmps13
  go_wp2_with fail
  refine Calls.exts (rget_any _ l a _ (hv.ext ((((Ext.refl w).alloc _).alloc _).alloc _))) (fun w1 e1 => ?_)
  obtain ⟨s0, q0, q1, q2, q3, x0, x1, hbx, hw1⟩ := rbox w1 e1
  obtain ⟨_, _, f0, f1⟩ := box_of hbx (Ext.refl w1)
  have hv1 := hv.ext hw1
  have hbs : w.heap.size + 1 + 1 < w1.heap.size := (Array.getElem?_eq_some_iff.1 hbx).1
  have hz := isR_hit ha
  have hz2 := getR_hit ha
  rw [hz, hz2]
  clear hz hz2
  go_wp2
  try simp only [Exit.inBlock, Exit.then]
  refine bodyPost_ret (by simp [results, Try.results13, go_sem, x0, x1]; rfl) rfl ?_
  exact ⟨doesW_same (r := ⟨0, num l (at1 l a)⟩) (by rw [doR_get, if_neg (by simpa using ha)]) hv ((hw1.setCell (by simp only []; omega) _).setCell (by simp only []; omega) _), (hw1.setCell (by simp only []; omega) _).setCell (by simp only []; omega) _⟩

end Go.Proofs.Ytdmipnnfoolelab

/- Walks: what the document says a call does. -/
import Derived.Test.YtpkmbboaladcjabR1
namespace Go.Proofs.Ytpkmbboaladcjab
open Go.RowKit Go.Mk

theorem setX_put1 {l : List (Int × Int)} (h : Okn l) {name : Int} (ha : at1 l name < l.length) (n : Int) : setX l name n = put1 l (at1 l name) n := by rw [setX_hit ha, setR_put1 h ha]
theorem setX_last {l : List (Int × Int)} {name : Int} (ha : ¬ at1 l name < l.length) (n : Int) : setX l name n = l ++ [(name, n)] := by rw [setX_none ha, setR_none ha]

theorem rno_any (b : Nat) (v : Value) (e : Int) (w : World) (hb : w.cell? ⟨b, 0, none⟩ = some v) (hbl : b < w.heap.size) :
    Calls Try.prog 22 #[I e, .pointer (some ⟨b, 0, none⟩)] w fun x w' => x = .returned (.tuple #[v, .agg #[I e, I 0]]) ∧ Ext w w' := by
  go_enter Try.func22, Try.ntmps22
  go_wp2
  go_returns
  exact ⟨rfl, (Ext.refl w).alloc _⟩

/-- What the document's Do hands back; it lies in memory of its own where the names did. -/
def DoesR (w : World) (v : Value) (l : List (Int × Int)) (c : Cl) (e : Ending) (w' : World) : Prop :=
  ∃ u, e = .returned (.tuple #[u, (doCl l c).2.val]) ∧ Writes w' u (doCl l c).1 ∧ ∀ base, base ≤ w.heap.size → Has base w v l → Has base w' u (doCl l c).1
theorem doesR_same {w w' : World} {l : List (Int × Int)} {c : Cl} {v : Value} {r : Rp} (h : doCl l c = (l, r)) (hv : Writes w v l) (he : Ext w w') : DoesR w v l c (.returned (.tuple #[v, r.val])) w' := by
  refine ⟨v, ?_, ?_, fun base _ hh => ?_⟩ <;> rw [h]
  · exact hv.ext he
  · exact hh.ext he
theorem doesR_new {w w' : World} {l l' : List (Int × Int)} {c : Cl} {u v : Value} {r : Rp} {b : Nat} (h : doCl l c = (l', r)) (hu : Has b w' u l') (hb : w.heap.size ≤ b) : DoesR w v l c (.returned (.tuple #[u, r.val])) w' := by
  refine ⟨u, ?_, ?_, fun base hle _ => ?_⟩ <;> rw [h]
  · exact hu.writes
  · exact hu.low (Nat.le_trans hle hb)

/-- What lies in memory when the document's Do begins. -/
theorem rbox {w : World} {x : Value} {k a o n : Int} (wx : World) (hx : Ext (((w.alloc (.cells #[x] 28)).alloc (.cells #[I k, I a, I o, I n] 24)).alloc (.cells #[I 0, I 0] 30)) wx) :
      wx.cell? ⟨w.heap.size, 0, none⟩ = some x ∧ wx.cell? ⟨w.heap.size + 1, 0, none⟩ = some (I k) ∧ wx.cell? ⟨w.heap.size + 1, 1, none⟩ = some (I a) ∧ wx.cell? ⟨w.heap.size + 1, 2, none⟩ = some (I o) ∧ wx.cell? ⟨w.heap.size + 1, 3, none⟩ = some (I n) ∧
      wx.cell? ⟨w.heap.size + 1 + 1, 0, none⟩ = some (I 0) ∧ wx.cell? ⟨w.heap.size + 1 + 1, 1, none⟩ = some (I 0) ∧ wx.heap[w.heap.size + 1 + 1]? = some (.cells #[I 0, I 0] 30) ∧ Ext w wx := by
  have hb : (((w.alloc (.cells #[x] 28)).alloc (.cells #[I k, I a, I o, I n] 24)).alloc (.cells #[I 0, I 0] 30)).heap[w.heap.size + 1 + 1]? = some (.cells #[I 0, I 0] 30) := by
    have := heap_alloc_new ((w.alloc (.cells #[x] 28)).alloc (.cells #[I k, I a, I o, I n] 24)) (.cells #[I 0, I 0] 30)
    simpa using this
  have p0 : (((w.alloc (.cells #[x] 28)).alloc (.cells #[I k, I a, I o, I n] 24)).alloc (.cells #[I 0, I 0] 30)).heap[w.heap.size]? = some (.cells #[x] 28) := by
    rw [heap_alloc_old _ _ (by simp; omega), heap_alloc_old _ _ (by simp)]
    exact heap_alloc_new _ _
  have p1 : (((w.alloc (.cells #[x] 28)).alloc (.cells #[I k, I a, I o, I n] 24)).alloc (.cells #[I 0, I 0] 30)).heap[w.heap.size + 1]? = some (.cells #[I k, I a, I o, I n] 24) := by
    rw [heap_alloc_old _ _ (by simp)]
    have := heap_alloc_new (w.alloc (.cells #[x] 28)) (.cells #[I k, I a, I o, I n] 24)
    simpa using this
  refine ⟨hx.cell (cell_block p0 rfl), hx.cell (cell_block p1 rfl), hx.cell (cell_block p1 rfl), hx.cell (cell_block p1 rfl), hx.cell (cell_block p1 rfl), hx.cell (cell_block hb rfl), hx.cell (cell_block hb rfl), ?_, ((((Ext.refl w).alloc _).alloc _).alloc _).trans hx⟩
  rw [hx.block _ (by simp)]
  exact hb

set_option maxRecDepth 100000 in
set_option maxHeartbeats 2000000 in
theorem rDo_none (v : Value) (l : List (Int × Int)) (k a o n : Int) (w : World) (hv : Writes w v l) (hl : Okn l) (hk : k = 2 ∨ k = 3 ∨ k = 4 ∨ k = 6) (ha : ¬ at1 l a < l.length) :
    Calls Try.prog 13 #[v, .agg #[I k, I a, I o, I n]] w fun e w' => DoesR w v l ⟨k, a, o, n⟩ e w' ∧ Ext w w' := by
  have hmf := func_mk
  have hl5 := hl.len
  obtain ⟨ao, cap, rfl, g1, g2, g3⟩ := hv.form
  unfold maxLen at g2
  have H3 : Hid _ := g3
  clear g3
  go_enter Try.func13, Try.ntmps13
  go_wp2_with fail
  refine Calls.exts (rget_any _ l a _ (hv.ext ((((Ext.refl w).alloc _).alloc _).alloc _))) (fun w1 e1 => ?_)
  obtain ⟨s0, q0, q1, q2, q3, x0, x1, hbx, hw1⟩ := rbox w1 e1
  obtain ⟨_, _, f0, f1⟩ := box_of hbx (Ext.refl w1)
  have hv1 := hv.ext hw1
  have hbs : w.heap.size + 1 + 1 < w1.heap.size := (Array.getElem?_eq_some_iff.1 hbx).1
  have hz := isR_none ha
  have hz2 := getR_none ha
  rw [hz, hz2]
  clear hz hz2
  rcases hk with rfl | rfl | rfl | rfl
  · go_wp2_with fail
    refine Calls.exts (rno_any _ _ _ _ s0 (cell_lt s0)) (fun w2 e2 => ?_)
    obtain ⟨x0, x1, f0, f1⟩ := box_of hbx e2
    have m2 := hw1.trans e2
    go_wp2
    try simp only [Exit.inBlock, Exit.then]
    refine bodyPost_ret (by simp [results, Try.results13, go_sem, x0, x1]; rfl) rfl ?_
    exact ⟨doesR_same (r := ⟨6, 0⟩) (by rw [doCl_get, if_pos ha]) hv ((m2.setCell (by simp only []; omega) _).setCell (by simp only []; omega) _), (m2.setCell (by simp only []; omega) _).setCell (by simp only []; omega) _⟩
  · go_wp2_with fail
    refine Calls.exts (rno_any _ _ _ _ s0 (cell_lt s0)) (fun w2 e2 => ?_)
    obtain ⟨x0, x1, f0, f1⟩ := box_of hbx e2
    have m2 := hw1.trans e2
    go_wp2
    try simp only [Exit.inBlock, Exit.then]
    refine bodyPost_ret (by simp [results, Try.results13, go_sem, x0, x1]; rfl) rfl ?_
    exact ⟨doesR_same (r := ⟨6, 0⟩) (by rw [doCl_drop, if_pos ha]) hv ((m2.setCell (by simp only []; omega) _).setCell (by simp only []; omega) _), (m2.setCell (by simp only []; omega) _).setCell (by simp only []; omega) _⟩
  · go_wp2_with fail
    refine Calls.exts (rno_any _ _ _ _ s0 (cell_lt s0)) (fun w2 e2 => ?_)
    obtain ⟨x0, x1, f0, f1⟩ := box_of hbx e2
    have m2 := hw1.trans e2
    go_wp2
    try simp only [Exit.inBlock, Exit.then]
    refine bodyPost_ret (by simp [results, Try.results13, go_sem, x0, x1]; rfl) rfl ?_
    exact ⟨doesR_same (r := ⟨6, 0⟩) (by rw [doCl_add, if_pos ha]) hv ((m2.setCell (by simp only []; omega) _).setCell (by simp only []; omega) _), (m2.setCell (by simp only []; omega) _).setCell (by simp only []; omega) _⟩
  · go_wp2_with fail
    refine Calls.exts (rno_any _ _ _ _ s0 (cell_lt s0)) (fun w2 e2 => ?_)
    obtain ⟨x0, x1, f0, f1⟩ := box_of hbx e2
    have m2 := hw1.trans e2
    go_wp2
    try simp only [Exit.inBlock, Exit.then]
    refine bodyPost_ret (by simp [results, Try.results13, go_sem, x0, x1]; rfl) rfl ?_
    exact ⟨doesR_same (r := ⟨6, 0⟩) (by rw [doCl_swap', if_pos ha]) hv ((m2.setCell (by simp only []; omega) _).setCell (by simp only []; omega) _), (m2.setCell (by simp only []; omega) _).setCell (by simp only []; omega) _⟩

end Go.Proofs.Ytpkmbboaladcjab

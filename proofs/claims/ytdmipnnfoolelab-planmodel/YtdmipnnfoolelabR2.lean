/- Walks: what the document says a call does. -/
import Derived.Test.YtdmipnnfoolelabR1
namespace Go.Proofs.Ytdmipnnfoolelab
open Go.RowKit Go.Mk

theorem setX_put1 {l : List (Int × Int)} (h : Okn l) {name : Int} (ha : at1 l name < l.length) (n : Int) : setX l name n = put1 l (at1 l name) n := by rw [setX_hit ha, setR_put1 h ha]
theorem setX_last {l : List (Int × Int)} {name : Int} (ha : ¬ at1 l name < l.length) (n : Int) : setX l name n = l ++ [(name, n)] := by rw [setX_none ha, setR_none ha]

theorem rno_any (b : Nat) (v : Value) (e : Int) (w : World) (hb : w.cell? ⟨b, 0, none⟩ = some v) (hbl : b < w.heap.size) :
    Calls Try.prog 22 #[I e, .pointer (some ⟨b, 0, none⟩)] w fun x w' => x = .returned (.tuple #[v, .agg #[I e, I 0]]) ∧ Ext w w' := by
  go_enter Try.func22, Try.ntmps22
  go_wp2
  go_returns
  exact ⟨rfl, (Ext.refl w).alloc _⟩

/-- Names without one: wherever it is, the last one is. -/
def dropR (l : List (Int × Int)) (a : Int) : List (Int × Int) := (l.map fun p => if p.1 = a then l.getD (l.length - 1) (0, 0) else p).take (l.length - 1)
/-- What the document's Do makes of names that need not be unlike. -/
def doR (l : List (Int × Int)) (c : Cl) : List (Int × Int) × Rp :=
  if c.kind = 5 then (l, ⟨0, l.length⟩)
  else if c.kind = 1 then
    if at1 l c.name < l.length then (setR l c.name c.n, ⟨0, num l (at1 l c.name)⟩)
    else if 5 ≤ l.length then (l, ⟨9, 0⟩) else (l ++ [(c.name, c.n)], ⟨0, 0⟩)
  else if ¬ at1 l c.name < l.length then (l, ⟨6, 0⟩)
  else if c.kind = 2 then (l, ⟨0, num l (at1 l c.name)⟩)
  else if c.kind = 3 then (dropR l c.name, ⟨0, num l (at1 l c.name)⟩)
  else if c.kind = 4 then
    if ¬ (-1073741824 ≤ num l (at1 l c.name) + c.n ∧ num l (at1 l c.name) + c.n ≤ 1073741824) then (l, ⟨3, 0⟩)
    else (setR l c.name (num l (at1 l c.name) + c.n), ⟨0, num l (at1 l c.name) + c.n⟩)
  else if ¬ at1 l c.other < l.length then (l, ⟨6, 0⟩)
  else (setR (setR l c.name (num l (at1 l c.other))) c.other (num l (at1 l c.name)), ⟨0, num l (at1 l c.other)⟩)
theorem doR_count (l : List (Int × Int)) (a o n : Int) : doR l ⟨5, a, o, n⟩ = (l, ⟨0, l.length⟩) := rfl
theorem doR_put (l : List (Int × Int)) (a o n : Int) : doR l ⟨1, a, o, n⟩ = if at1 l a < l.length then (setR l a n, ⟨0, num l (at1 l a)⟩) else if 5 ≤ l.length then (l, ⟨9, 0⟩) else (l ++ [(a, n)], ⟨0, 0⟩) := rfl
theorem doR_get (l : List (Int × Int)) (a o n : Int) : doR l ⟨2, a, o, n⟩ = if ¬ at1 l a < l.length then (l, ⟨6, 0⟩) else (l, ⟨0, num l (at1 l a)⟩) := rfl
theorem doR_drop (l : List (Int × Int)) (a o n : Int) : doR l ⟨3, a, o, n⟩ = if ¬ at1 l a < l.length then (l, ⟨6, 0⟩) else (dropR l a, ⟨0, num l (at1 l a)⟩) := rfl
theorem doR_add (l : List (Int × Int)) (a o n : Int) : doR l ⟨4, a, o, n⟩ = if ¬ at1 l a < l.length then (l, ⟨6, 0⟩) else if ¬ (-1073741824 ≤ num l (at1 l a) + n ∧ num l (at1 l a) + n ≤ 1073741824) then (l, ⟨3, 0⟩) else (setR l a (num l (at1 l a) + n), ⟨0, num l (at1 l a) + n⟩) := rfl
theorem doR_swap' (l : List (Int × Int)) (a b n : Int) : doR l ⟨6, a, b, n⟩ = if ¬ at1 l a < l.length then (l, ⟨6, 0⟩) else if ¬ at1 l b < l.length then (l, ⟨6, 0⟩)
  else (setR (setR l a (num l (at1 l b))) b (num l (at1 l a)), ⟨0, num l (at1 l b)⟩) := rfl
/-- What is told does not ask whether names are unlike. -/
theorem doR_snd (l : List (Int × Int)) (c : Cl) : (doR l c).2 = (doCl l c).2 := by
  unfold doR doCl
  repeat' split
  all_goals rfl
theorem getD_setR (l : List (Int × Int)) (name n : Int) (j : Nat) (hj : j < l.length) : (setR l name n).getD j (0, 0) = if (l.getD j (0, 0)).1 = name then ((l.getD j (0, 0)).1, n) else l.getD j (0, 0) := by
  simp [setR, List.getD_eq_getElem?_getD, hj]
theorem at1_setR (l : List (Int × Int)) (name n x : Int) : at1 (setR l name n) x = at1 l x := by
  have hf : ∀ j, j < l.length → ((setR l name n).getD j (0, 0)).1 = (l.getD j (0, 0)).1 := fun j hj => by
    rw [getD_setR _ _ _ _ hj]; split <;> rfl
  by_cases h : at1 l x < l.length
  · refine at1_of (by rw [length_setR]; exact h) (by rw [hf _ h]; exact at1_hit h) (fun j hj => by rw [hf _ (by omega)]; exact at1_before hj)
  · have e : at1 l x = l.length := by have := at1_le l x; omega
    rw [e, ← length_setR l name n]
    refine at1_none fun j hj => ?_
    rw [length_setR] at hj
    rw [hf _ hj]
    exact at1_before (by omega)
theorem length_dropR (l : List (Int × Int)) (a : Int) : (dropR l a).length = l.length - 1 := by simp [dropR]
theorem getD_dropR (l : List (Int × Int)) (a : Int) (j : Nat) (hj : j < l.length - 1) : (dropR l a).getD j (0, 0) = if (l.getD j (0, 0)).1 = a then l.getD (l.length - 1) (0, 0) else l.getD j (0, 0) := by
  have h2 : j < l.length := by omega
  unfold dropR
  rw [List.getD_eq_getElem?_getD, List.getElem?_take, if_pos hj, List.getElem?_map, List.getElem?_eq_getElem h2]
  simp [List.getD_eq_getElem?_getD, h2]
/-- Where names are unlike it is what the call does. -/
theorem doR_eq {l : List (Int × Int)} (h : Okn l) (c : Cl) : doR l c = doCl l c := by
  have hs : ∀ a n, at1 l a < l.length → setR l a n = put1 l (at1 l a) n := fun a n ha => setR_put1 h ha n
  have hd : ∀ a, at1 l a < l.length → dropR l a = (l.set (at1 l a) (l.getD (l.length - 1) (0, 0))).take (l.length - 1) := fun a ha => by
    refine ext_getD (by rw [length_dropR, length_dropped]) fun j hj => ?_
    rw [length_dropR] at hj
    rw [getD_dropR _ _ _ hj, getD_dropped _ _ _ ha hj]
    by_cases hn : (l.getD j (0, 0)).1 = a
    · rw [if_pos hn, if_pos (h.uni ha (by omega) (by rw [at1_hit ha, hn]))]
    · rw [if_neg hn, if_neg (fun e => hn (by rw [← e]; exact at1_hit ha))]
  unfold doR doCl
  by_cases k5 : c.kind = 5
  · rw [if_pos k5, if_pos k5]
  rw [if_neg k5, if_neg k5]
  by_cases ha : at1 l c.name < l.length
  · rw [if_pos ha, if_pos ha, hs _ _ ha, hd _ ha]
    by_cases hb : at1 l c.other < l.length
    · have h2 : setR (put1 l (at1 l c.name) (num l (at1 l c.other))) c.other (num l (at1 l c.name)) = put1 (put1 l (at1 l c.name) (num l (at1 l c.other))) (at1 l c.other) (num l (at1 l c.name)) := by
        have hm := (h.at hb).2.2
        have q := setR_put1 (okn_put1 h ha hm.1 hm.2) (name := c.other) (by rw [at1_put1 _ _ _ ha, length_put1]; exact hb) (num l (at1 l c.name))
        rwa [at1_put1 _ _ _ ha] at q
      rw [hs _ _ ha, hs _ _ ha, h2]
    · rw [if_pos hb, if_pos hb, hs _ _ ha]
  · rw [if_neg ha, if_neg ha, if_pos ha, if_pos ha]

/-- What the document's Do hands back; it lies in memory of its own where the names did. -/
def DoesW (w : World) (v : Value) (l : List (Int × Int)) (c : Cl) (e : Ending) (w' : World) : Prop :=
  ∃ u, e = .returned (.tuple #[u, (doR l c).2.val]) ∧ Writes w' u (doR l c).1 ∧ ∀ base, base ≤ w.heap.size → Has base w v l → Has base w' u (doR l c).1
theorem doesW_same {w w' : World} {l : List (Int × Int)} {c : Cl} {v : Value} {r : Rp} (h : doR l c = (l, r)) (hv : Writes w v l) (he : Ext w w') : DoesW w v l c (.returned (.tuple #[v, r.val])) w' := by
  refine ⟨v, ?_, ?_, fun base _ hh => ?_⟩ <;> rw [h]
  · exact hv.ext he
  · exact hh.ext he
theorem doesW_new {w w' : World} {l l' : List (Int × Int)} {c : Cl} {u v : Value} {r : Rp} {b : Nat} (h : doR l c = (l', r)) (hu : Has b w' u l') (hb : w.heap.size ≤ b) : DoesW w v l c (.returned (.tuple #[u, r.val])) w' := by
  refine ⟨u, ?_, ?_, fun base hle _ => ?_⟩ <;> rw [h]
  · exact hu.writes
  · exact hu.low (Nat.le_trans hle hb)

/-- What lies in memory when the document's Do begins. -/
theorem rbox {w : World} {x : Value} {k a o n : Int} (wx : World) (hx : Ext (((w.alloc (.cells #[x] 28)).alloc (.cells #[I k, I a, I o, I n] 24)).alloc (.cells #[I 0, I 0] 30)) wx) :
      wx.cell? ⟨w.heap.size, 0, none⟩ = some x ∧ wx.cell? ⟨w.heap.size + 1, 0, none⟩ = some (I k) ∧ wx.cell? ⟨w.heap.size + 1, 1, none⟩ = some (I a) ∧ wx.cell? ⟨w.heap.size + 1, 2, none⟩ = some (I o) ∧ wx.cell? ⟨w.heap.size + 1, 3, none⟩ = some (I n) ∧
      wx.cell? ⟨w.heap.size + 1 + 1, 0, none⟩ = some (I 0) ∧ wx.cell? ⟨w.heap.size + 1 + 1, 1, none⟩ = some (I 0) ∧ wx.heap[w.heap.size + 1 + 1]? = some (.cells #[I 0, I 0] 30) ∧ Ext w wx := by
  have hb : (((w.alloc (.cells #[x] 28)).alloc (.cells #[I k, I a, I o, I n] 24)).alloc (.cells #[I 0, I 0] 30)).heap[w.heap.size + 1 + 1]? = some (.cells #[I 0, I 0] 30) := by
    have := heap_alloc_new ((w.alloc (.cells #[x] 28)).alloc (.cells #[I k, I a, I o, I n] 24)) (.cells #[I 0, I 0] 30)
    simpa using this
  have p0 : (((w.alloc (.cells #[x] 28)).alloc (.cells #[I k, I a, I o, I n] 24)).alloc (.cells #[I 0, I 0] 30)).heap[w.heap.size]? = some (.cells #[x] 28) := by
    rw [heap_alloc_old _ _ (by simp; omega), heap_alloc_old _ _ (by simp)]
    exact heap_alloc_new _ _
  have p1 : (((w.alloc (.cells #[x] 28)).alloc (.cells #[I k, I a, I o, I n] 24)).alloc (.cells #[I 0, I 0] 30)).heap[w.heap.size + 1]? = some (.cells #[I k, I a, I o, I n] 24) := by
    rw [heap_alloc_old _ _ (by simp)]
    have := heap_alloc_new (w.alloc (.cells #[x] 28)) (.cells #[I k, I a, I o, I n] 24)
    simpa using this
  refine ⟨hx.cell (cell_block p0 rfl), hx.cell (cell_block p1 rfl), hx.cell (cell_block p1 rfl), hx.cell (cell_block p1 rfl), hx.cell (cell_block p1 rfl), hx.cell (cell_block hb rfl), hx.cell (cell_block hb rfl), ?_, ((((Ext.refl w).alloc _).alloc _).alloc _).trans hx⟩
  rw [hx.block _ (by simp)]
  exact hb

set_option maxRecDepth 100000 in
set_option maxHeartbeats 2000000 in
theorem wDo_none (v : Value) (l : List (Int × Int)) (k a o n : Int) (w : World) (hv : Writes w v l) (hl : Okw l) (hk : k = 2 ∨ k = 3 ∨ k = 4 ∨ k = 6) (ha : ¬ at1 l a < l.length) :
    Calls Try.prog 13 #[v, .agg #[I k, I a, I o, I n]] w fun e w' => DoesW w v l ⟨k, a, o, n⟩ e w' ∧ Ext w w' := by
  have hmf := func_mk
  have hl5 := hl.len
  obtain ⟨ao, cap, rfl, g1, g2, g3⟩ := hv.form
  unfold maxLen at g2
  have H3 : Hid _ := g3
  clear g3
  go_enter Try.func13, Try.ntmps13
  go_wp2_with fail
  refine Calls.exts (rget_any _ l a _ (hv.ext ((((Ext.refl w).alloc _).alloc _).alloc _))) (fun w1 e1 => ?_)
  obtain ⟨s0, q0, q1, q2, q3, x0, x1, hbx, hw1⟩ := rbox w1 e1
  obtain ⟨_, _, f0, f1⟩ := box_of hbx (Ext.refl w1)
  have hv1 := hv.ext hw1
  have hbs : w.heap.size + 1 + 1 < w1.heap.size := (Array.getElem?_eq_some_iff.1 hbx).1
  have hz := isR_none ha
  have hz2 := getR_none ha
  rw [hz, hz2]
  clear hz hz2
  rcases hk with rfl | rfl | rfl | rfl
  · go_wp2_with fail
    refine Calls.exts (rno_any _ _ _ _ s0 (cell_lt s0)) (fun w2 e2 => ?_)
    obtain ⟨x0, x1, f0, f1⟩ := box_of hbx e2
    have m2 := hw1.trans e2
    go_wp2
    try simp only [Exit.inBlock, Exit.then]
    refine bodyPost_ret (by simp [results, Try.results13, go_sem, x0, x1]; rfl) rfl ?_
    exact ⟨doesW_same (r := ⟨6, 0⟩) (by rw [doR_get, if_pos ha]) hv ((m2.setCell (by simp only []; omega) _).setCell (by simp only []; omega) _), (m2.setCell (by simp only []; omega) _).setCell (by simp only []; omega) _⟩
  · go_wp2_with fail
    refine Calls.exts (rno_any _ _ _ _ s0 (cell_lt s0)) (fun w2 e2 => ?_)
    obtain ⟨x0, x1, f0, f1⟩ := box_of hbx e2
    have m2 := hw1.trans e2
    go_wp2
    try simp only [Exit.inBlock, Exit.then]
    refine bodyPost_ret (by simp [results, Try.results13, go_sem, x0, x1]; rfl) rfl ?_
    exact ⟨doesW_same (r := ⟨6, 0⟩) (by rw [doR_drop, if_pos ha]) hv ((m2.setCell (by simp only []; omega) _).setCell (by simp only []; omega) _), (m2.setCell (by simp only []; omega) _).setCell (by simp only []; omega) _⟩
  · go_wp2_with fail
    refine Calls.exts (rno_any _ _ _ _ s0 (cell_lt s0)) (fun w2 e2 => ?_)
    obtain ⟨x0, x1, f0, f1⟩ := box_of hbx e2
    have m2 := hw1.trans e2
    go_wp2
    try simp only [Exit.inBlock, Exit.then]
    refine bodyPost_ret (by simp [results, Try.results13, go_sem, x0, x1]; rfl) rfl ?_
    exact ⟨doesW_same (r := ⟨6, 0⟩) (by rw [doR_add, if_pos ha]) hv ((m2.setCell (by simp only []; omega) _).setCell (by simp only []; omega) _), (m2.setCell (by simp only []; omega) _).setCell (by simp only []; omega) _⟩
  · go_wp2_with fail
    refine Calls.exts (rno_any _ _ _ _ s0 (cell_lt s0)) (fun w2 e2 => ?_)
    obtain ⟨x0, x1, f0, f1⟩ := box_of hbx e2
    have m2 := hw1.trans e2
    go_wp2
    try simp only [Exit.inBlock, Exit.then]
    refine bodyPost_ret (by simp [results, Try.results13, go_sem, x0, x1]; rfl) rfl ?_
    exact ⟨doesW_same (r := ⟨6, 0⟩) (by rw [doR_swap', if_pos ha]) hv ((m2.setCell (by simp only []; omega) _).setCell (by simp only []; omega) _), (m2.setCell (by simp only []; omega) _).setCell (by simp only []; omega) _⟩

end Go.Proofs.Ytdmipnnfoolelab

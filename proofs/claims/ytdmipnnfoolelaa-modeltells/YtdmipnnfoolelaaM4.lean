/- Walks: what calls do to names of one's own. -/
import Derived.Test.YtdmipnnfoolelaaM3
namespace Go.Proofs.Ytdmipnnfoolelaa
open Go.RowKit Go.Mk

/-- What a deed comes to: names, and what is told; of what was there only the row g may have turned. -/
def Told (w : World) (g : Nat) (l : List (Int × Int)) (r : Rp) (e : Ending) (w' : World) : Prop :=
  ∃ u v n lo, e = .returned (.tuple #[u, .agg #[I r.err, I r.n]]) ∧ w'.ownsRow g 34 2 v n (cells2 lo) ∧ (∀ w2 : World, w2.ownsRow g 34 2 v n (cells2 lo) → Writes w2 u l) ∧ w.grownBy w' (some g)

/-- Names of one's own, in the row g. -/
abbrev Owned (w : World) (g : Nat) (l : List (Int × Int)) : Prop := w.ownsRow g 34 2 (.slice (some ⟨g, 0, none⟩) l.length l.length) l.length (cells2 l)

/-- The call's own cell for what is told is new. -/
theorem told_box {w w1 : World} {g b n : Nat} {u v x y : Value} {l l' : List (Int × Int)} {r : Rp} (hb : w.heap.size ≤ b) (ho : w1.ownsRow g 34 2 v n (cells2 l)) (hv : v.ownBlock ≠ some b) (hg : w.grownBy w1 (some g))
    (hu : ∀ w2 : World, w2.ownsRow g 34 2 v n (cells2 l) → Writes w2 u l') : Told w g l' r (.returned (.tuple #[u, .agg #[I r.err, I r.n]])) ((w1.setCell ⟨b, 0, none⟩ x).setCell ⟨b, 1, none⟩ y) :=
  ⟨u, v, n, l, rfl, owns_setCell (owns_setCell ho hv _ _) hv _ _, hu, grown_new (grown_new hg hb _ _) hb _ _⟩

theorem ne_new {w : World} {g : Nat} {l : List (Int × Int)} (ho : Owned w g l) : (Value.slice (some ⟨g, 0, none⟩) l.length l.length).ownBlock ≠ some w.heap.size := fun e => by
  have h := (ho.lt g rfl).2
  have e2 : g = w.heap.size := by simpa [Value.ownBlock] using e
  rw [e2] at h
  exact Nat.lt_irrefl _ h

set_option maxHeartbeats 400000 in
theorem count_any (l : List (Int × Int)) (g : Nat) (w : World) (ho : Owned w g l) :
    Calls Try.prog 48 #[.slice (some ⟨g, 0, none⟩) l.length l.length] w fun e w' => Told w g l ⟨0, l.length⟩ e w' := by
  go_enter Try.func48, Try.ntmps48
  go_wp2_with fail
  refine Calls.exts (tell_any _ _ _) (fun w1 e1 => ?_)
  obtain ⟨c0, c1, f0, f1⟩ := box_ext e1
  go_wp2
  try simp only [Exit.inBlock, Exit.then]
  refine bodyPost_ret (by simp [results, Try.results48, go_sem, c0, c1]; rfl) rfl ?_
  have he : Ext w w1 := ((Ext.refl w).alloc _).trans e1
  exact told_box (Nat.le_refl _) (owns_ext ho he) (ne_new ho) (he.grownBy _) (fun w2 h2 => writes_of_owns h2)

theorem owned_cells {w : World} {g : Nat} {l : List (Int × Int)} (ho : Owned w g l) (i : Nat) (hi : i < l.length) : w.cell? ⟨g, i * 2, none⟩ = some (I (l.getD i (0, 0)).1) ∧ w.cell? ⟨g, i * 2 + 1, none⟩ = some (I (l.getD i (0, 0)).2) := by
  obtain ⟨a, b⟩ := cells2_at l i hi
  rw [← ho.cellAt _ (by omega)] at a b
  exact ⟨a, b⟩

set_option maxHeartbeats 400000 in
theorem get_any (l : List (Int × Int)) (g i : Nat) (w : World) (ho : Owned w g l) (hi : i < l.length) :
    Calls Try.prog 51 #[.slice (some ⟨g, 0, none⟩) l.length l.length, I i] w fun e w' => Told w g l ⟨0, num l i⟩ e w' := by
  have hc : ∀ o, (w.alloc o).cell? ⟨g, i * 2 + 1, none⟩ = some (I (num l i)) := fun o => (owned_cells (ho.alloc o) i hi).2
  go_enter Try.func51, Try.ntmps51
  go_wp2_with fail
  refine Calls.exts (tell_any _ _ _) (fun w1 e1 => ?_)
  obtain ⟨c0, c1, f0, f1⟩ := box_ext e1
  go_wp2
  try simp only [Exit.inBlock, Exit.then]
  refine bodyPost_ret (by simp [results, Try.results51, go_sem, c0, c1]; rfl) rfl ?_
  have he : Ext w w1 := ((Ext.refl w).alloc _).trans e1
  exact told_box (Nat.le_refl _) (owns_ext ho he) (ne_new ho) (he.grownBy _) (fun w2 h2 => writes_of_owns h2)

set_option maxHeartbeats 400000 in
theorem nokind_any (l : List (Int × Int)) (g : Nat) (w : World) (ho : Owned w g l) :
    Calls Try.prog 55 #[.slice (some ⟨g, 0, none⟩) l.length l.length] w fun e w' => Told w g l ⟨1, 0⟩ e w' := by
  go_enter Try.func55, Try.ntmps55
  go_wp2_with fail
  refine Calls.exts (refuse_any _ _ _) (fun w1 e1 => ?_)
  obtain ⟨c0, c1, f0, f1⟩ := box_ext e1
  go_wp2
  try simp only [Exit.inBlock, Exit.then]
  refine bodyPost_ret (by simp [results, Try.results55, go_sem, c0, c1]; rfl) rfl ?_
  have he : Ext w w1 := ((Ext.refl w).alloc _).trans e1
  exact told_box (Nat.le_refl _) (owns_ext ho he) (ne_new ho) (he.grownBy _) (fun w2 h2 => writes_of_owns h2)

set_option maxHeartbeats 400000 in
theorem drop_any (l : List (Int × Int)) (g i : Nat) (w : World) (ho : Owned w g l) (hi : i < l.length) (hr : l.length * 16 ≤ 140737488355328) :
    Calls Try.prog 52 #[.slice (some ⟨g, 0, none⟩) l.length l.length, I i] w fun e w' => Told w g ((l.set i (l.getD (l.length - 1) (0, 0))).take (l.length - 1)) ⟨0, num l i⟩ e w' := by
  have hg : g < w.heap.size := (ho.lt g rfl).2
  obtain ⟨hc1, hc2⟩ := owned_cells ho i hi
  obtain ⟨hc3, hc4⟩ := owned_cells ho (l.length - 1) (by omega)
  have hf1 : w.frozen? ⟨g, i * 2, none⟩ = false := ho.frozenAt _
  have hf2 : w.frozen? ⟨g, i * 2 + 1, none⟩ = false := ho.frozenAt _
  have HN : Hid (num l i = (l.getD i (0, 0)).2) := rfl
  generalize hL : l.length - 1 = L at *
  have hLi : (l.length : Int) - 1 = (L : Int) := by omega
  have hLl : (L : Int) < (l.length : Int) := by omega
  have hLt : (L : Int).toNat = L := by omega
  have HL : Hid (l.length - 1 = L) := hL
  clear hL
  generalize hQ : l.getD L (0, 0) = q at *
  have HQ : Hid (l.getD L (0, 0) = q) := hQ
  clear hQ
  generalize hP : l.getD i (0, 0) = p at *
  obtain ⟨p1, p2⟩ := p
  obtain ⟨q1, q2⟩ := q
  simp only [] at hc1 hc2 hc3 hc4
  rw [HN.out]
  clear hP HN
  go_enter Try.func52, Try.ntmps52
  go_wp2_with fail
  refine Calls.exts (tell_any _ _ _) (fun w1 e1 => ?_)
  obtain ⟨c0, c1, f0, f1⟩ := box_at w.heap.size e1 (by simp)
  have s1 := ho.stored (i * 2) (I q1)
  have s2 := s1.1.stored (i * 2 + 1) (I q2)
  have ho' := owns_ext s2.1 (((Ext.refl _).alloc _).trans e1)
  have hg' := grown_trans (grown_trans s1.2 s2.2) ((((Ext.refl _).alloc _).trans e1).grownBy _)
  clear s1 s2 hc1 hc2 hc3 hc4 hf1 hf2 e1
  go_wp2
  try simp only [Exit.inBlock, Exit.then]
  refine bodyPost_ret (by simp [results, Try.results52, go_sem, c0, c1]; rfl) rfl ?_
  have hlen : (l.set i (q1, q2)).length = l.length := by simp
  rw [show ((cells2 l).set (i * 2) (I q1)).set (i * 2 + 1) (I q2) = cells2 (l.set i (q1, q2)) from (cells2_set l i (q1, q2)).symm, ← hlen] at ho'
  exact told_box (Nat.le_refl _) ho' (by rw [hlen]; exact ne_new ho) hg' (fun w2 h2 => by have := (writes_of_owns h2).take L (by rw [hlen]; omega); rwa [hlen] at this)

theorem owned_put1 {w : World} {g : Nat} {l : List (Int × Int)} (ho : Owned w g l) (i : Nat) (hi : i < l.length) (n : Int) : Owned (w.setCell ⟨g, i * 2 + 1, none⟩ (I n)) g (put1 l i n) := by
  have h := (ho.stored (i * 2 + 1) (I n)).1
  unfold Owned
  rw [length_put1]
  have e : (cells2 l).set (i * 2 + 1) (I n) = cells2 (put1 l i n) := by
    unfold put1
    rw [cells2_set]
    congr 1
    simp only []
    have h1 := (cells2_at l i hi).1
    obtain ⟨hlt, h2⟩ := List.getElem?_eq_some_iff.1 h1
    rw [← h2, List.set_getElem_self]
  rw [← e]
  exact h

theorem ne_new' {w : World} {g : Nat} {l : List (Int × Int)} (ho : Owned w g l) {n m : Nat} : (Value.slice (some ⟨g, 0, none⟩) n m).ownBlock ≠ some w.heap.size := ne_new ho

set_option maxHeartbeats 400000 in
theorem add_any (l : List (Int × Int)) (g i b : Nat) (n : Int) (w : World) (ho : Owned w g l) (hi : i < l.length) (hb : w.cell? ⟨b, 0, none⟩ = some (I n)) (hbl : b < w.heap.size)
    (hn : -1073741824 ≤ n ∧ n ≤ 1073741824) (hm : -1073741824 ≤ num l i ∧ num l i ≤ 1073741824) :
    Calls Try.prog 61 #[.slice (some ⟨g, 0, none⟩) l.length l.length, I i, .pointer (some ⟨b, 0, none⟩)] w fun e w' =>
      if -1073741824 ≤ num l i + n ∧ num l i + n ≤ 1073741824 then Told w g (put1 l i (num l i + n)) ⟨0, num l i + n⟩ e w' else Told w g l ⟨3, 0⟩ e w' := by
  have hg : g < w.heap.size := (ho.lt g rfl).2
  obtain ⟨hc1, hc2⟩ := owned_cells ho i hi
  replace hc2 : w.cell? ⟨g, i * 2 + 1, none⟩ = some (I (num l i)) := hc2
  clear hc1
  have hf2 : w.frozen? ⟨g, i * 2 + 1, none⟩ = false := ho.frozenAt _
  have HO : Hid (∀ wx m, Ext w wx → Owned (wx.setCell ⟨g, i * 2 + 1, none⟩ (I m)) g (put1 l i m)) := fun wx m hx => owned_put1 (owns_ext ho hx) i hi m
  generalize num l i = m at *
  obtain ⟨n1, n2⟩ := hn
  obtain ⟨m1, m2⟩ := hm
  by_cases hs : -1073741824 ≤ m + n ∧ m + n ≤ 1073741824
  · simp only [hs, and_self, if_true]
    obtain ⟨s1, s2⟩ := hs
    go_enter Try.func61, Try.ntmps61
    go_wp2_with fail
    go_quiet (fail)
    go_wp2_with (go_at_call 38; refine Calls.same (mwithin_any _ _ _ _) ?_)
    refine Calls.exts (tell_any _ _ _) (fun w1 e1 => ?_)
    obtain ⟨c0, c1, f0, f1⟩ := box_of (heap_set_new hg) e1
    have ho' := owns_ext (HO.out _ _ (((Ext.refl w).alloc _).drewN _)) e1
    have hg' := grown_trans (grown_trans ((((Ext.refl w).alloc _).drewN nq).grownBy (some g)) (grown_setCell _ g (i * 2 + 1) (I (m + n)))) (e1.grownBy _)
    go_wp2
    try simp only [Exit.inBlock, Exit.then]
    refine bodyPost_ret (by simp [results, Try.results61, go_sem, c0, c1]; rfl) rfl ?_
    exact told_box (Nat.le_refl _) ho' (ne_new' ho) hg' (fun w2 h2 => by have := writes_of_owns h2; rwa [length_put1] at this)
  · simp only [hs, if_false]
    have hs2 : m + n < -1073741824 ∨ 1073741824 < m + n := by omega
    clear hs
    rcases hs2 with hs2 | hs2
    · have d1 : decide (-1073741824 ≤ m + n) = false := by simp; omega
      go_enter Try.func61, Try.ntmps61
      go_wp2_with fail
      go_quiet (fail)
      go_wp2_with (go_at_call 38; refine Calls.same (mwithin_any _ _ _ _) ?_)
      refine Calls.exts (refuse_any _ _ _) (fun w1 e1 => ?_)
      obtain ⟨c0, c1, f0, f1⟩ := box_of (heap_drew_new w _ _) e1
      have he : Ext w w1 := (((Ext.refl w).alloc _).drewN _).trans e1
      go_wp2
      try simp only [Exit.inBlock, Exit.then]
      refine bodyPost_ret (by simp [results, Try.results61, go_sem, c0, c1]; rfl) rfl ?_
      exact told_box (Nat.le_refl _) (owns_ext ho he) (ne_new' ho) (he.grownBy _) (fun w2 h2 => writes_of_owns h2)
    · have d1 : decide (m + n ≤ 1073741824) = false := by simp; omega
      go_enter Try.func61, Try.ntmps61
      go_wp2_with fail
      go_quiet (fail)
      go_wp2_with (go_at_call 38; refine Calls.same (mwithin_any _ _ _ _) ?_)
      refine Calls.exts (refuse_any _ _ _) (fun w1 e1 => ?_)
      obtain ⟨c0, c1, f0, f1⟩ := box_of (heap_drew_new w _ _) e1
      have he : Ext w w1 := (((Ext.refl w).alloc _).drewN _).trans e1
      go_wp2
      try simp only [Exit.inBlock, Exit.then]
      refine bodyPost_ret (by simp [results, Try.results61, go_sem, c0, c1]; rfl) rfl ?_
      exact told_box (Nat.le_refl _) (owns_ext ho he) (ne_new' ho) (he.grownBy _) (fun w2 h2 => writes_of_owns h2)

end Go.Proofs.Ytdmipnnfoolelaa

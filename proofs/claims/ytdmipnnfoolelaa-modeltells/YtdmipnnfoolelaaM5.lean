/- Walks: what calls do to names of one's own: putting, changing, and whether a name is there. -/
import Derived.Test.YtdmipnnfoolelaaM4
namespace Go.Proofs.Ytdmipnnfoolelaa
open Go.RowKit Go.Mk

theorem put1_self (l : List (Int × Int)) (i : Nat) : put1 l i (num l i) = l := by
  unfold put1 num
  by_cases h : i < l.length
  · rw [List.getD_eq_getElem?_getD, List.getElem?_eq_getElem h]
    exact List.set_getElem_self h
  · rw [List.set_eq_of_length_le (by omega)]

set_option maxHeartbeats 1000000 in
theorem swap_any (l : List (Int × Int)) (g i b : Nat) (name : Int) (w : World) (ho : Owned w g l) (hi : i < l.length) (hb : w.cell? ⟨b, 0, none⟩ = some (I name)) (hbl : b < w.heap.size) :
    Calls Try.prog 62 #[.slice (some ⟨g, 0, none⟩) l.length l.length, I i, .pointer (some ⟨b, 0, none⟩)] w fun e w' =>
      if at1 l name < l.length then Told w g (put1 (put1 l i (num l (at1 l name))) (at1 l name) (num l i)) ⟨0, num l (at1 l name)⟩ e w' else Told w g l ⟨6, 0⟩ e w' := by
  have hg : g < w.heap.size := (ho.lt g rfl).2
  by_cases ha : at1 l name < l.length
  case neg =>
    simp only [ha, if_false]
    have hf : find1 l name = -1 := by unfold find1; rw [if_neg ha]
    go_enter Try.func62, Try.ntmps62
    go_wp2_with fail
    refine Calls.exts (find_any _ l name _ (writes_of_owns (ho.alloc _))) (fun wa ea => ?_)
    rw [hf]
    go_wp2_with fail
    refine Calls.exts (refuse_any _ _ _) (fun w1 e1 => ?_)
    obtain ⟨c0, c1, f0, f1⟩ := box_of (heap_alloc_new w _) (ea.trans e1)
    have he : Ext w w1 := (((Ext.refl w).alloc _).trans ea).trans e1
    go_wp2
    try simp only [Exit.inBlock, Exit.then]
    refine bodyPost_ret (by simp [results, Try.results62, go_sem, c0, c1]; rfl) rfl ?_
    exact told_box (Nat.le_refl _) (owns_ext ho he) (ne_new' ho) (he.grownBy _) (fun w2 h2 => writes_of_owns h2)
  simp only [ha, if_true]
  have hf : find1 l name = (at1 l name : Int) := by unfold find1; rw [if_pos ha]
  generalize hA : at1 l name = A at *
  have HS : Hid (∀ wx, Ext w wx → Owned wx g l) := fun wx hx => owns_ext ho hx
  go_enter Try.func62, Try.ntmps62
  go_wp2_with fail
  refine Calls.exts (find_any _ l name _ (writes_of_owns (ho.alloc _))) (fun wa ea => ?_)
  rw [hf]
  have hoa : Owned wa g l := HS.out wa (((Ext.refl w).alloc _).trans ea)
  obtain ⟨k1, k2⟩ := owned_cells hoa i hi
  obtain ⟨k3, k4⟩ := owned_cells hoa A ha
  have f2 : wa.frozen? ⟨g, i * 2 + 1, none⟩ = false := hoa.frozenAt _
  have f4 : wa.frozen? ⟨g, A * 2 + 1, none⟩ = false := hoa.frozenAt _
  replace k2 : wa.cell? ⟨g, i * 2 + 1, none⟩ = some (I (num l i)) := k2
  replace k4 : wa.cell? ⟨g, A * 2 + 1, none⟩ = some (I (num l A)) := k4
  clear k1 k3
  have HW : Hid (∀ x y : Int, Owned (((wa.setCell ⟨g, i * 2 + 1, none⟩ (I x)).setCell ⟨g, A * 2 + 1, none⟩ (I y)).drew) g (put1 (put1 l i x) A y)) := fun x y =>
    owns_ext (owned_put1 (owned_put1 hoa i hi x) A (by rw [length_put1]; exact ha) y) (Ext.refl _).drew
  have HG : Hid (∀ x y : Value, wa.grownBy (((wa.setCell ⟨g, i * 2 + 1, none⟩ x).setCell ⟨g, A * 2 + 1, none⟩ y).drew) (some g)) := fun x y =>
    grown_drew (grown_trans (grown_setCell _ _ _ _) (grown_setCell _ _ _ _))
  have HB : Hid (∀ x y : Value, (((wa.setCell ⟨g, i * 2 + 1, none⟩ x).setCell ⟨g, A * 2 + 1, none⟩ y).drew).heap[w.heap.size]? = some (.cells #[I 0, I 0] 43)) := fun x y => by
    show ((wa.setCell ⟨g, i * 2 + 1, none⟩ x).setCell ⟨g, A * 2 + 1, none⟩ y).heap[w.heap.size]? = _
    rw [Below.heap_setCell _ _ _ _ (fun e => by simp only [] at e; omega), Below.heap_setCell _ _ _ _ (fun e => by simp only [] at e; omega)]
    exact block_ext ea
  have HN : Hid (num (put1 (put1 l i (num l A)) A (num l i)) i = num l A) := by
    unfold Hid
    rw [num_put1 _ _ _ _ (by rw [length_put1]; exact ha), num_put1 _ _ _ _ hi, if_pos rfl]
    by_cases e : A = i
    · rw [if_pos e, e]
    · rw [if_neg e]
  generalize hm : num l i = m at *
  have HM : Hid (num l i = m) := hm
  clear hm
  generalize hn : num l A = n at *
  have HNA : Hid (num l A = n) := hn
  clear hn
  have hgw : w.grownBy wa (some g) := (((Ext.refl w).alloc _).trans ea).grownBy _
  by_cases hiA : i = A
  · subst hiA
    have hmn : n = m := by
      have := k2.symm.trans k4
      simpa using this.symm
    subst hmn
    go_wp2_with fail
    go_region
    have hob := HW.out n n
    have hgb := HG.out (I n) (I n)
    have hbb := HB.out (I n) (I n)
    have kb := (owned_cells hob i (by rw [length_put1, length_put1]; exact hi)).2
    generalize ((wa.setCell ⟨g, i * 2 + 1, none⟩ (I n)).setCell ⟨g, i * 2 + 1, none⟩ (I n)).drew = wb at *
    replace kb : wb.cell? ⟨g, i * 2 + 1, none⟩ = some (I n) := by rw [kb]; exact congrArg (some ∘ I) HN.out
    clear k2 k4 f2 f4
    go_wp2_with fail
    refine Calls.exts (tell_any _ _ _) (fun w1 e1 => ?_)
    obtain ⟨c0, c1, f0, f1⟩ := box_of hbb e1
    go_wp2
    try simp only [Exit.inBlock, Exit.then]
    refine bodyPost_ret (by simp [results, Try.results62, go_sem, c0, c1]; rfl) rfl ?_
    rw [HNA.out]
    exact told_box (r := ⟨0, n⟩) (Nat.le_refl _) (owns_ext hob e1) (ne_new' ho) (grown_trans (grown_trans hgw hgb) (e1.grownBy _)) (fun w2 h2 => by have := writes_of_owns h2; rwa [length_put1, length_put1] at this)
  · have d1 : ¬ (i * 2 + 1 = A * 2 + 1) := by omega
    have d2 : ¬ (A * 2 + 1 = i * 2 + 1) := by omega
    go_wp2_with fail
    go_region
    have hob := HW.out n m
    have hgb := HG.out (I n) (I m)
    have hbb := HB.out (I n) (I m)
    have kb := (owned_cells hob i (by rw [length_put1, length_put1]; exact hi)).2
    generalize ((wa.setCell ⟨g, i * 2 + 1, none⟩ (I n)).setCell ⟨g, A * 2 + 1, none⟩ (I m)).drew = wb at *
    replace kb : wb.cell? ⟨g, i * 2 + 1, none⟩ = some (I n) := by rw [kb]; exact congrArg (some ∘ I) HN.out
    clear k2 k4 f2 f4
    go_wp2_with fail
    refine Calls.exts (tell_any _ _ _) (fun w1 e1 => ?_)
    obtain ⟨c0, c1, f0, f1⟩ := box_of hbb e1
    go_wp2
    try simp only [Exit.inBlock, Exit.then]
    refine bodyPost_ret (by simp [results, Try.results62, go_sem, c0, c1]; rfl) rfl ?_
    rw [HNA.out, HM.out]
    exact told_box (r := ⟨0, n⟩) (Nat.le_refl _) (owns_ext hob e1) (ne_new' ho) (grown_trans (grown_trans hgw hgb) (e1.grownBy _)) (fun w2 h2 => by have := writes_of_owns h2; rwa [length_put1, length_put1] at this)

set_option maxHeartbeats 1000000 in
theorem put_any (l : List (Int × Int)) (g b1 b2 : Nat) (name n : Int) (w : World) (ho : Owned w g l) (hr : (l.length + 1) * 16 ≤ 140737488355328) (h1 : w.cell? ⟨b1, 0, none⟩ = some (I name)) (hb1 : b1 < w.heap.size) (h2 : w.cell? ⟨b2, 0, none⟩ = some (I n)) :
    Calls Try.prog 58 #[.slice (some ⟨g, 0, none⟩) l.length l.length, .pointer (some ⟨b1, 0, none⟩), .pointer (some ⟨b2, 0, none⟩)] w fun e w' =>
      if at1 l name < l.length then Told w g (put1 l (at1 l name) n) ⟨0, num l (at1 l name)⟩ e w' else if 5 ≤ l.length then Told w g l ⟨9, 0⟩ e w' else Told w g (l ++ [(name, n)]) ⟨0, 0⟩ e w' := by
  have hg : g < w.heap.size := (ho.lt g rfl).2
  obtain ⟨i0, hi0, hz0, hz1, hz2⟩ := info_parts Try.infoWrite2
  by_cases ha : at1 l name < l.length
  · simp only [ha, if_true]
    have hf : find1 l name = (at1 l name : Int) := by unfold find1; rw [if_pos ha]
    generalize hA : at1 l name = A at *
    have HS : Hid (∀ wx, Ext w wx → Owned wx g l) := fun wx hx => owns_ext ho hx
    go_enter Try.func58, Try.ntmps58
    go_wp2_with fail
    refine Calls.exts (find_any _ l name _ (writes_of_owns (ho.alloc _))) (fun wa ea => ?_)
    rw [hf]
    have hea : Ext w wa := ((Ext.refl w).alloc _).trans ea
    have hoa : Owned wa g l := HS.out wa hea
    obtain ⟨_, k2⟩ := owned_cells hoa A ha
    have f2 : wa.frozen? ⟨g, A * 2 + 1, none⟩ = false := hoa.frozenAt _
    replace k2 : wa.cell? ⟨g, A * 2 + 1, none⟩ = some (I (num l A)) := k2
    have g2 := hea.cell h2
    have hob := owned_put1 hoa A ha n
    have hgb : w.grownBy _ (some g) := grown_trans (hea.grownBy (some g)) (grown_setCell wa g (A * 2 + 1) (I n))
    have hbb : (wa.setCell ⟨g, A * 2 + 1, none⟩ (I n)).heap[w.heap.size]? = some (.cells #[I 0, I 0] 43) := by
      rw [Below.heap_setCell _ _ _ _ (fun e => by simp only [] at e; omega)]
      exact block_ext ea
    go_wp2_with fail
    refine Calls.exts (tell_any _ _ _) (fun w1 e1 => ?_)
    obtain ⟨c0, c1, f0, f1⟩ := box_of hbb e1
    go_wp2
    try simp only [Exit.inBlock, Exit.then]
    refine bodyPost_ret (by simp [results, Try.results58, go_sem, c0, c1]; rfl) rfl ?_
    exact told_box (Nat.le_refl _) (owns_ext hob e1) (ne_new' ho) (grown_trans hgb (e1.grownBy _)) (fun w2 h2 => by have := writes_of_owns h2; rwa [length_put1] at this)
  simp only [ha, if_false]
  have hf : find1 l name = -1 := by unfold find1; rw [if_neg ha]
  by_cases h5 : 5 ≤ l.length
  · simp only [h5, if_true]
    have h5' : (5 : Int) ≤ (l.length : Int) := by omega
    go_enter Try.func58, Try.ntmps58
    go_wp2_with fail
    refine Calls.exts (find_any _ l name _ (writes_of_owns (ho.alloc _))) (fun wa ea => ?_)
    rw [hf]
    go_wp2_with fail
    refine Calls.exts (refuse_any _ _ _) (fun w1 e1 => ?_)
    obtain ⟨c0, c1, f0, f1⟩ := box_of (heap_alloc_new w _) (ea.trans e1)
    have he : Ext w w1 := (((Ext.refl w).alloc _).trans ea).trans e1
    go_wp2
    try simp only [Exit.inBlock, Exit.then]
    refine bodyPost_ret (by simp [results, Try.results58, go_sem, c0, c1]; rfl) rfl ?_
    exact told_box (Nat.le_refl _) (owns_ext ho he) (ne_new' ho) (he.grownBy _) (fun w2 h2 => writes_of_owns h2)
  · simp only [h5, if_false]
    have h5' : (l.length : Int) < 5 := by omega
    go_enter Try.func58, Try.ntmps58
    go_wp2_with fail
    refine Calls.exts (find_any _ l name _ (writes_of_owns (ho.alloc _))) (fun wa ea => ?_)
    rw [hf]
    have hea : Ext w wa := ((Ext.refl w).alloc _).trans ea
    have g1 := hea.cell h1
    have g2 := hea.cell h2
    have hoa : Owned wa g l := owns_ext ho hea
    have hba := block_ext ea
    have hsa : g ≤ wa.heap.size := Nat.le_trans (Nat.le_of_lt hg) hea.size
    have hbs : w.heap.size < wa.heap.size := (Array.getElem?_eq_some_iff.1 hba).1
    go_wp2_with (at_builtin; refine wpList_append_row _ rfl _ _ 23 rfl g 34 i0 (.agg #[.int .i64 0, .int .i64 0]) 2 16 Try.underlying23 hi0 hz0 hz1 hz2 rfl (by decide) _ _ _ rfl (hoa.alloc _) _ rfl 1 [I name, I n] (writes_lit (l := [(name, n)]) _ _ 1 rfl rfl (by decide)) (cells2_one [(name, n)]) (by omega) (by decide) (by simp; omega) ?_; intro v' w3 ho3 hg3)
    have hb3 : w3.heap[w.heap.size]? = some (.cells #[I 0, I 0] 43) := by
      have hg4 : (wa.alloc (.cells #[I name, I n] 34)).grownBy w3 (some g) := hg3
      rw [hg4.block w.heap.size (by simp; omega) (fun e => by have e2 : w.heap.size = g := Option.some.inj e; omega), heap_alloc_old _ _ hbs]
      exact hba
    have hgw : w.grownBy w3 (some g) := grown_trans ((hea.alloc _).grownBy _) hg3
    refine Calls.exts (tell_any _ _ _) (fun w1 e1 => ?_)
    obtain ⟨c0, c1, f0, f1⟩ := box_of hb3 e1
    go_wp2
    try simp only [Exit.inBlock, Exit.then]
    refine bodyPost_ret (by simp [results, Try.results58, go_sem, c0, c1]; rfl) rfl ?_
    rw [show cells2 l ++ [I name, I n] = cells2 (l ++ [(name, n)]) from (cells2_append l [(name, n)]).symm] at ho3
    exact told_box (Nat.le_refl _) (owns_ext ho3 e1) (own_ne ho3 hb3 (by decide)) (grown_trans hgw (e1.grownBy _)) (fun w2 h2 => writes_of_owns h2)

end Go.Proofs.Ytdmipnnfoolelaa

/- Walks: calls as writes: the pieces. -/
import Derived.Test.YtdmipnnfoolelabM9
import Derived.Test.YtdmipnnfoolelabMath5
namespace Go.Proofs.Ytdmipnnfoolelab
open Go.RowKit Go.Mk

theorem wset2 {w : World} {b : Nat} {t : TypeId} {p q : Value} (h : w.heap[b]? = some (.cells #[p, q] t (0, 0))) (u v : Value) : ((w.setCell ⟨b, 0, none⟩ u).setCell ⟨b, 1, none⟩ v).heap[b]? = some (.cells #[u, v] t (0, 0)) := by
  have h1 := heap_setCell_same _ _ 0 _ _ u h
  have h2 := heap_setCell_same _ _ 1 _ _ v h1
  simpa using h2

theorem phas_lit {w : World} (l : List (Int × Int)) (cs : Array Value) (n : Nat) (hc : cs.toList = cells2 l) (hn : l.length = n) (hm : n ≤ maxLen) (b : Nat) (hb : b ≤ w.heap.size) : Has b (w.alloc (.cells cs 43)) (.slice (some ⟨w.heap.size, 0, none⟩) n n) l := by
  subst hn
  have := World.ownsRow_lit (base := b) (e := 43) (size := 2) w cs l.length hb hm (by rw [← Array.length_toList, hc, length_cells2])
  rw [hc] at this
  exact ⟨_, _, l, this, fun w2 h2 => writes_of_owns h2⟩

set_option maxHeartbeats 400000 in
theorem pcount_any (v : Value) (l : List (Int × Int)) (w : World) (hv : Writes w v l) :
    Calls Try.prog 31 #[v] w fun e w' => e = .returned (.agg #[I 0, I (l.length : Int)]) ∧ Ext w w' := by
  obtain ⟨ao, cap, rfl, h1, h2, -⟩ := hv.form
  unfold maxLen at h2
  clear hv
  have c0 : (w.alloc (.cells #[I 0, I (l.length : Int)] 43)).cell? ⟨w.heap.size, 0, none⟩ = some (I 0) := by simp
  have c1 : (w.alloc (.cells #[I 0, I (l.length : Int)] 43)).cell? ⟨w.heap.size, 1, none⟩ = some (I (l.length : Int)) := by simp
  go_enter Try.func31, Try.ntmps31
  go_wp2
  refine bodyPost_ret (by simp [results, Try.results31, go_sem]; rfl) rfl ?_
  exact ⟨rfl, (Ext.refl _).alloc _⟩

set_option maxHeartbeats 400000 in
theorem pname_any (v : Value) (l : List (Int × Int)) (i : Nat) (w : World) (hv : Writes w v l) (hi : i < l.length) (hl : l.length ≤ 5) :
    Calls Try.prog 42 #[v, I i] w fun e w' => e = .returned (.agg #[I (1 + 2 * (i : Int)), I (l.getD i (0, 0)).1]) ∧ Ext w w' := by
  obtain ⟨ao, cap, rfl, h1, h2, h3⟩ := hv.form
  unfold maxLen at h2
  obtain ⟨b, off, rfl, c1, c2⟩ := h3 i hi
  generalize (l.getD i (0, 0)).1 = p at *
  generalize (l.getD i (0, 0)).2 = q at *
  clear hv h3
  have e0 : Ext w (w.alloc (.cells #[I 0, I 0] 43)) := (Ext.refl w).alloc _
  have HB : Hid ((w.alloc (.cells #[I 0, I 0] 43)).heap[w.heap.size]? = some (.cells #[I 0, I 0] 43 (0, 0))) := heap_alloc_new _ _
  have d1 := e0.cell c1
  clear c1 c2
  go_enter Try.func42, Try.ntmps42
  go_wp2_with fail
  refine wp_region_mono_tail 8 [none, some (.inl (I (1 + 2 * (i : Int)))), none, none, none, none, none, none] (by kernel_rfl) (by kernel_rfl) ?_ ?_
  · exact ⟨trivial, trivial, trivial, trivial, trivial, trivial, trivial, trivial, trivial⟩
  iterate 1 (refine wpM_p (fun K hK => ?_); go_simp; refine hK _ ?_; clear hK K)
  refine wpM_x _ rfl (fun w' hw' _ => ?_) ?_
  · have hg := gives_same (nameCell_any i w' (by omega) (by omega))
    unfold makes
    go_simp
    exact ⟨Ext.refl _, hg⟩
  iterate 4 (refine wpM_p (fun K hK => ?_); go_simp; refine hK _ ?_; clear hK K)
  refine wpM_q (I p) rfl (fun w' hw' => by have := hw'.cell d1; go_simp) ?_
  iterate 1 (refine wpM_p (fun K hK => ?_); go_simp; refine hK _ ?_; clear hK K)
  refine wpM_nil ?_
  intro w4 he4 _
  have hb4 : w4.heap[w.heap.size]? = some (.cells #[I 0, I 0] 43 (0, 0)) := by rw [he4.block _ (by simp)]; exact HB.out
  obtain ⟨x0, x1, f0, f1⟩ := box_of hb4 (Ext.refl _)
  go_wp2
  obtain ⟨z0, z1, -, -⟩ := box_of (wset2 hb4 (I (1 + 2 * (i : Int))) (I p)) (Ext.refl _)
  clear x0 x1 f0 f1
  refine bodyPost_ret (by simp [results, Try.results42, go_sem, z0, z1]; rfl) rfl ?_
  exact ⟨rfl, ((e0.trans he4).setCell (Nat.le_refl _) _).setCell (Nat.le_refl _) _⟩

set_option maxHeartbeats 400000 in
theorem pnumber_any (v : Value) (l : List (Int × Int)) (i : Nat) (w : World) (hv : Writes w v l) (hi : i < l.length) (hl : l.length ≤ 5) :
    Calls Try.prog 30 #[v, I i] w fun e w' => e = .returned (.agg #[I (2 + 2 * (i : Int)), I (l.getD i (0, 0)).2]) ∧ Ext w w' := by
  obtain ⟨ao, cap, rfl, h1, h2, h3⟩ := hv.form
  unfold maxLen at h2
  obtain ⟨b, off, rfl, c1, c2⟩ := h3 i hi
  generalize (l.getD i (0, 0)).1 = p at *
  generalize (l.getD i (0, 0)).2 = q at *
  clear hv h3
  have e0 : Ext w (w.alloc (.cells #[I 0, I 0] 43)) := (Ext.refl w).alloc _
  have HB : Hid ((w.alloc (.cells #[I 0, I 0] 43)).heap[w.heap.size]? = some (.cells #[I 0, I 0] 43 (0, 0))) := heap_alloc_new _ _
  have d1 := e0.cell c2
  clear c1 c2
  go_enter Try.func30, Try.ntmps30
  go_wp2_with fail
  refine wp_region_mono_tail 8 [none, some (.inl (I (1 + 2 * (i : Int) + 1))), none, none, none, none, none, none] (by kernel_rfl) (by kernel_rfl) ?_ ?_
  · exact ⟨trivial, trivial, trivial, trivial, trivial, trivial, trivial, trivial, trivial⟩
  iterate 1 (refine wpM_p (fun K hK => ?_); go_simp; refine hK _ ?_; clear hK K)
  refine wpM_x _ rfl (fun w' hw' _ => ?_) ?_
  · have hg := gives_same (numberCell_any i w' (by omega) (by omega))
    unfold makes
    go_simp
    exact ⟨Ext.refl _, hg⟩
  iterate 4 (refine wpM_p (fun K hK => ?_); go_simp; refine hK _ ?_; clear hK K)
  refine wpM_q (I q) rfl (fun w' hw' => by have := hw'.cell d1; go_simp) ?_
  iterate 1 (refine wpM_p (fun K hK => ?_); go_simp; refine hK _ ?_; clear hK K)
  refine wpM_nil ?_
  intro w4 he4 _
  have hb4 : w4.heap[w.heap.size]? = some (.cells #[I 0, I 0] 43 (0, 0)) := by rw [he4.block _ (by simp)]; exact HB.out
  obtain ⟨x0, x1, f0, f1⟩ := box_of hb4 (Ext.refl _)
  go_wp2
  obtain ⟨z0, z1, -, -⟩ := box_of (wset2 hb4 (I (1 + 2 * (i : Int) + 1)) (I q)) (Ext.refl _)
  clear x0 x1 f0 f1
  refine bodyPost_ret (by simp [results, Try.results30, go_sem, z0, z1]; rfl) rfl ?_
  exact ⟨by rw [show 2 + 2 * (i : Int) = 1 + 2 * (i : Int) + 1 by omega], ((e0.trans he4).setCell (Nat.le_refl _) _).setCell (Nat.le_refl _) _⟩

end Go.Proofs.Ytdmipnnfoolelab

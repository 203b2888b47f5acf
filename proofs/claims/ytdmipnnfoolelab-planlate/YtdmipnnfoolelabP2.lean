/- Walks: calls as writes: which they are. -/
import Derived.Test.YtdmipnnfoolelabP1
namespace Go.Proofs.Ytdmipnnfoolelab
open Go.RowKit Go.Mk

set_option maxHeartbeats 400000 in
theorem pentry_any (v : Value) (l : List (Int × Int)) (i : Nat) (w : World) (hv : Writes w v l) (hi : i < l.length) (hl : l.length ≤ 5) :
    Gives Try.prog 29 #[v, I i] w fun r w' => Has w.heap.size w' r [(1 + 2 * (i : Int), (l.getD i (0, 0)).1), (2 + 2 * (i : Int), (l.getD i (0, 0)).2), (0, (l.length : Int))] := by
  unfold Gives
  have HN := fun wx (h : Ext w wx) => pname_any v l i wx (hv.ext h) hi hl
  have HM := fun wx (h : Ext w wx) => pnumber_any v l i wx (hv.ext h) hi hl
  have HK := fun wx (h : Ext w wx) => pcount_any v l wx (hv.ext h)
  generalize (l.getD i (0, 0)).1 = p at *
  generalize (l.getD i (0, 0)).2 = q at *
  clear hv
  go_enter Try.func29, Try.ntmps29
  go_wp2_with fail
  refine Calls.exts (HN _ (Ext.refl _)) (fun w1 e1 => ?_)
  go_wp2_with fail
  refine Calls.exts (HM _ e1) (fun w2 e2 => ?_)
  replace e2 := e1.trans e2
  go_wp2_with fail
  refine Calls.exts (HK _ e2) (fun w3 e3 => ?_)
  replace e3 := e2.trans e3
  go_wp2
  go_ret
  exact ⟨_, rfl, e3.alloc _, phas_lit [(1 + 2 * (i : Int), p), (2 + 2 * (i : Int), q), (0, (l.length : Int))] _ 3 rfl rfl (by decide) _ e3.size⟩

set_option maxHeartbeats 400000 in
theorem pwrites_new (v : Value) (l : List (Int × Int)) (o : Int) (w : World) (hv : Writes w v l) (h0 : 0 < l.length) (hl : l.length ≤ 5) :
    Gives Try.prog 17 #[v, I 1, I (-1), I o] w fun r w' => Has w.heap.size w' r [(1 + 2 * ((l.length - 1 : Nat) : Int), (l.getD (l.length - 1) (0, 0)).1), (2 + 2 * ((l.length - 1 : Nat) : Int), (l.getD (l.length - 1) (0, 0)).2), (0, (l.length : Int))] := by
  unfold Gives
  have HE := pentry_any v l (l.length - 1) w hv (by omega) hl
  obtain ⟨ao, cap, rfl, h1, h2, -⟩ := hv.form
  unfold maxLen at h2
  clear hv
  generalize (l.getD (l.length - 1) (0, 0)).1 = p at *
  generalize (l.getD (l.length - 1) (0, 0)).2 = q at *
  have hlast : ((l.length - 1 : Nat) : Int) = (l.length : Int) - 1 := by omega
  rw [hlast] at HE ⊢
  go_enter Try.func17, Try.ntmps17
  go_wp2_with fail
  refine HE.to fun r w' he hr => ?_
  go_wp2
  go_ret
  exact ⟨_, rfl, he, hr⟩

set_option maxHeartbeats 400000 in
theorem pwrites_drop (v : Value) (l : List (Int × Int)) (i : Nat) (o : Int) (w : World) (hv : Writes w v l) (hi : i < l.length) (hl : l.length ≤ 5) :
    Gives Try.prog 17 #[v, I 3, I i, I o] w fun r w' => Has w.heap.size w' r [(1 + 2 * (i : Int), (l.getD i (0, 0)).1), (2 + 2 * (i : Int), (l.getD i (0, 0)).2), (0, (l.length : Int))] := by
  unfold Gives
  have HE := pentry_any v l i w hv hi hl
  obtain ⟨ao, cap, rfl, h1, h2, -⟩ := hv.form
  unfold maxLen at h2
  clear hv
  generalize (l.getD i (0, 0)).1 = p at *
  generalize (l.getD i (0, 0)).2 = q at *
  have hne : ((i : Int) == (l.length : Int)) = false := by simp; omega
  go_enter Try.func17, Try.ntmps17
  go_wp2_with fail
  refine HE.to fun r w' he hr => ?_
  go_wp2
  go_ret
  exact ⟨_, rfl, he, hr⟩

set_option maxHeartbeats 400000 in
theorem pwrites_last (v : Value) (l : List (Int × Int)) (o : Int) (w : World) (hv : Writes w v l) :
    Gives Try.prog 17 #[v, I 3, I (l.length : Int), I o] w fun r w' => Has w.heap.size w' r [(0, (l.length : Int))] := by
  unfold Gives
  have HE := pcount_any v l w hv
  obtain ⟨ao, cap, rfl, h1, h2, -⟩ := hv.form
  unfold maxLen at h2
  clear hv
  go_enter Try.func17, Try.ntmps17
  go_wp2_with fail
  refine Calls.exts HE (fun w1 e1 => ?_)
  go_wp2
  go_ret
  exact ⟨_, rfl, e1.alloc _, phas_lit [(0, (l.length : Int))] _ 1 rfl rfl (by decide) _ e1.size⟩

set_option maxHeartbeats 400000 in
theorem pwrites_num (k : Int) (hk : k = 1 ∨ k = 4) (v : Value) (l : List (Int × Int)) (i : Nat) (o : Int) (w : World) (hv : Writes w v l) (hi : i < l.length) (hl : l.length ≤ 5) :
    Gives Try.prog 17 #[v, I k, I i, I o] w fun r w' => Has w.heap.size w' r [(2 + 2 * (i : Int), (l.getD i (0, 0)).2)] := by
  unfold Gives
  have HE := pnumber_any v l i w hv hi hl
  generalize (l.getD i (0, 0)).2 = q at *
  have hn : ¬ (i : Int) < 0 := by omega
  clear hv
  rcases hk with rfl | rfl
  all_goals
    go_enter Try.func17, Try.ntmps17
    go_wp2_with fail
    refine Calls.exts HE (fun w1 e1 => ?_)
    go_wp2
    go_ret
    exact ⟨_, rfl, e1.alloc _, phas_lit [(2 + 2 * (i : Int), q)] _ 1 rfl rfl (by decide) _ e1.size⟩

set_option maxHeartbeats 400000 in
theorem pwrites_swap (v : Value) (l : List (Int × Int)) (i j : Nat) (w : World) (hv : Writes w v l) (hi : i < l.length) (hj : j < l.length) (hl : l.length ≤ 5) :
    Gives Try.prog 17 #[v, I 6, I i, I j] w fun r w' => Has w.heap.size w' r [(2 + 2 * (i : Int), (l.getD i (0, 0)).2), (2 + 2 * (j : Int), (l.getD j (0, 0)).2)] := by
  unfold Gives
  have HN := fun wx (h : Ext w wx) => pnumber_any v l i wx (hv.ext h) hi hl
  have HM := fun wx (h : Ext w wx) => pnumber_any v l j wx (hv.ext h) hj hl
  generalize (l.getD i (0, 0)).2 = p at *
  generalize (l.getD j (0, 0)).2 = q at *
  clear hv
  go_enter Try.func17, Try.ntmps17
  go_wp2_with fail
  refine Calls.exts (HN _ (Ext.refl _)) (fun w1 e1 => ?_)
  go_wp2_with fail
  refine Calls.exts (HM _ e1) (fun w2 e2 => ?_)
  replace e2 := e1.trans e2
  go_wp2
  go_ret
  exact ⟨_, rfl, e2.alloc _, phas_lit [(2 + 2 * (i : Int), p), (2 + 2 * (j : Int), q)] _ 2 rfl rfl (by decide) _ e2.size⟩

set_option maxHeartbeats 400000 in
theorem pwrites_none (k : Int) (hk : k = 2 ∨ k = 5) (v : Value) (i o : Int) (w : World) :
    Gives Try.prog 17 #[v, I k, I i, I o] w fun r w' => Has w.heap.size w' r [] := by
  unfold Gives
  rcases hk with rfl | rfl
  all_goals
    go_enter Try.func17, Try.ntmps17
    go_wp2
    go_ret
    exact ⟨_, rfl, Ext.refl _, Has.nil _ _⟩

end Go.Proofs.Ytdmipnnfoolelab

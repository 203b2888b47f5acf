/- Walks: the laws of chapter 1. -/
import Derived.Test.YtdmipnnfoolelaaW4
namespace Go.Proofs.Ytdmipnnfoolelaa
open Go.RowKit Go.Mk

theorem ints_len {w : World} {v : Value} {xs : List Int} (h : Ints w v xs) : ∃ ao cap, v = .slice ao xs.length cap := by
  obtain ⟨ao, cap, h, _⟩ := h.form
  exact ⟨ao, cap, h⟩

set_option maxHeartbeats 1000000 in
theorem alive_any (w : World) : Gives Try.prog 20 #[] w fun r _ => r = .bool true := by
  unfold Gives
  go_enter Try.func20, Try.ntmps20
  go_wp2_with fail
  refine (New_any _).to fun c w1 e1 hc => ?_
  go_wp2_with fail
  have e2 := e1.alloc (Obj.cells #[I 1, I 7, I 2, I 5, I 0, I 1] 34)
  have hl : Writes (w1.alloc (Obj.cells #[I 1, I 7, I 2, I 5, I 0, I 1] 34)) (.slice (some ⟨w1.heap.size, 0, none⟩) 3 3) [(1, 7), (2, 5), (0, 1)] := writes_lit _ _ _ 3 rfl rfl (by decide)
  have hc2 := hc.ext ((Ext.refl w1).alloc (Obj.cells #[I 1, I 7, I 2, I 5, I 0, I 1] 34))
  refine (Set_any _ _ _ _ _ hc2 hl (by decide) (by decide)).to fun d w3 e3 hd => ?_
  go_wp2_with fail
  refine (Undo_any _ _ _ _ _ (hc2.ext e3) (hl.ext e3) (by decide) (by decide)).to fun u w4 e4 hu => ?_
  have hd' := hd.ext e4
  have hc' := (hc2.ext e3).ext e4
  have e5 := (e2.trans e3).trans e4
  rw [show undoAll (List.replicate 11 0) [(1, 7), (2, 5), (0, 1)] = [(0, 0), (2, 0), (1, 0)] by decide] at hu
  rw [show setAll (List.replicate 11 0) [(1, 7), (2, 5), (0, 1)] = [1, 7, 5, 0, 0, 0, 0, 0, 0, 0, 0] by decide] at hd'
  clear hd hc hc2 hl e1 e2 e3 e4
  obtain ⟨ao, cap, rfl, _, _, hcu⟩ := hu.form
  obtain ⟨ao', cap', hcv⟩ := ints_len hc'
  subst hcv
  obtain ⟨b, off, rfl, q1, q2⟩ := hcu 0 (by decide)
  simp only [Nat.zero_mul, Nat.add_zero] at q1 q2
  have q1' : w4.cell? ⟨b, off, none⟩ = some (I 0) := q1
  have q2' : w4.cell? ⟨b, off + 1, none⟩ = some (I 0) := q2
  clear hcu q1 q2
  have hdn : ∀ n, Ints (w4.drewN n) d [1, 7, 5, 0, 0, 0, 0, 0, 0, 0, 0] := fun n => hd'.ext (Ext.of_drewN _ _)
  have hst : Try.prog.stoodInHeld 34 = false := by kernel_rfl
  have hgd : Try.prog.eqGuardType Try.prog.depth 34 = false := by kernel_rfl
  go_wp2_with fail
  refine Calls.drawn (Wrong_any _ _ _ hc') (fun n1 => ?_)
  rw [show wrongOf (List.replicate 11 0) = 0 by decide]
  go_wp2_with fail
  refine Calls.drawn (Wrong_any _ _ _ (hdn _)) (fun n2 => ?_)
  rw [show wrongOf [1, 7, 5, 0, 0, 0, 0, 0, 0, 0, 0] = 0 by decide]
  go_wp2_with fail
  refine Calls.same (Find_any _ _ 7 _ (hdn _) (by decide)) ?_
  rw [show findIn [1, 7, 5, 0, 0, 0, 0, 0, 0, 0, 0] 7 (entriesOf [1, 7, 5, 0, 0, 0, 0, 0, 0, 0, 0]).toNat 0 = 0 by decide]
  go_wp2_with fail
  refine Calls.same (Find_any _ _ 8 _ (hdn _) (by decide)) ?_
  rw [show findIn [1, 7, 5, 0, 0, 0, 0, 0, 0, 0, 0] 8 (entriesOf [1, 7, 5, 0, 0, 0, 0, 0, 0, 0, 0]).toNat 0 = -1 by decide]
  go_wp2
  go_ret
  exact ⟨_, rfl, e5.drewN _, rfl⟩

set_option maxHeartbeats 1000000 in
theorem CellTells_any (v u : Value) (xs : List Int) (l : List (Int × Int)) (name : Int) (w : World) (hv : Ints w v xs) (hu : Writes w u l) (hr : xs.length * 8 ≤ 140737488355328) (hr2 : l.length * 16 ≤ 140737488355328) :
    Gives Try.prog 3 #[v, u, I name] w fun r _ => r = .bool true := by
  unfold Gives
  have hmk : ∀ w, (Instr.makeSlice 22 (.int .i64 11) (.int .i64 11)).run Try.prog w = .ok (.slice (some ⟨w.heap.size, 0, none⟩) 11 11) (w.alloc (.cells (List.replicate 11 (I 0)).toArray 3)) := fun _ => by kernel_rfl
  go_enter Try.func3, Try.ntmps3
  go_wp2_with fail
  refine wp_region_mono [some (.inr fun r w' => Ints w' r (List.replicate 11 0)), some (.inr fun r w' => Ints w' r (List.replicate 11 0)), some (.inl (.bool true)), none, none,
    none, some (.inl (I (wrongOf xs))), none, some (.inl (I (wrongOf xs))), none, none, none,
    none, none, some (.inr fun r w' => Ints w' r (setAll xs l)), none, none, some (.inr fun r w' => Ints w' r (setAll xs l)), some (.inl (.bool true)), none, none, none,
    none, none, some (.inr fun r w' => Writes w' r (undoAll xs l)), none, none, some (.inr fun r w' => Writes w' r (undoAll xs l)), some (.inl (.bool true)), none, none] (by kernel_rfl) (by kernel_rfl) ?_ ?_
  · exact ⟨monoInts _, monoInts _, trivial, trivial, trivial, trivial, trivial, trivial, trivial, trivial, trivial, trivial, trivial, trivial, monoInts _, trivial, trivial, monoInts _, trivial, trivial, trivial, trivial, trivial, trivial, monoWrites _, trivial, trivial, monoWrites _, trivial, trivial, trivial, trivial⟩
  refine wpM_l _ rfl (fun w' hw' _ => by unfold makes; go_simp; exact ⟨Ext.refl _, New_any w'⟩) (fun v7 => ?_)
  refine wpM_l _ rfl (fun w' hw' _ => by unfold makes; go_simp; exact ⟨(Ext.refl _).alloc _, ints_lit _ _ _ 11 rfl rfl (by decide)⟩) (fun v8 => ?_)
  refine wpM_x _ rfl (fun w' hw' hk => ?_) ?_
  · have h7 : Ints w' v7 (List.replicate 11 0) := hk 7 (by decide)
    have h8 : Ints w' v8 (List.replicate 11 0) := hk 8 (by decide)
    have hg := sameInts_eq rfl h7 h8
    clear hk h7 h8
    unfold makes
    go_simp
    exact ⟨Ext.refl _, hg⟩
  iterate 3 (refine wpM_p (fun K hK => ?_); go_simp; refine hK _ ?_; clear hK K)
  refine wpM_x _ rfl (fun w' hw' _ => ?_) ?_
  · have hg := gives_drawn (Wrong_any v xs w' (hv.ext hw'))
    unfold makes
    go_simp
    exact ⟨Ext.refl _, hg⟩
  iterate 1 (refine wpM_p (fun K hK => ?_); go_simp; refine hK _ ?_; clear hK K)
  refine wpM_x _ rfl (fun w' hw' _ => ?_) ?_
  · have hg := gives_drawn (refWrong_any v xs w' (hv.ext hw'))
    unfold makes
    go_simp
    exact ⟨Ext.refl _, hg⟩
  iterate 5 (refine wpM_p (fun K hK => ?_); go_simp; refine hK _ ?_; clear hK K)
  refine wpM_l _ rfl (fun w' hw' _ => ?_) (fun v21 => ?_)
  · have hg := Set_any v u xs l w' (hv.ext hw') (hu.ext hw') hr hr2
    unfold makes
    go_simp
    exact ⟨Ext.refl _, hg⟩
  iterate 2 (refine wpM_p (fun K hK => ?_); go_simp; refine hK _ ?_; clear hK K)
  refine wpM_l _ rfl (fun w' hw' _ => ?_) (fun v24 => ?_)
  · have hg := refSet_any v u xs l w' (hv.ext hw') (hu.ext hw') hr hr2
    unfold makes
    go_simp
    exact ⟨Ext.refl _, hg⟩
  refine wpM_x _ rfl (fun w' hw' hk => ?_) ?_
  · have h7 : Ints w' v21 (setAll xs l) := hk 21 (by decide)
    have h8 : Ints w' v24 (setAll xs l) := hk 24 (by decide)
    have hg := sameInts_eq rfl h7 h8
    clear hk h7 h8
    unfold makes
    go_simp
    exact ⟨Ext.refl _, hg⟩
  iterate 5 (refine wpM_p (fun K hK => ?_); go_simp; refine hK _ ?_; clear hK K)
  refine wpM_l _ rfl (fun w' hw' _ => ?_) (fun v31 => ?_)
  · have hg := Undo_any v u xs l w' (hv.ext hw') (hu.ext hw') hr hr2
    unfold makes
    go_simp
    exact ⟨Ext.refl _, hg⟩
  iterate 2 (refine wpM_p (fun K hK => ?_); go_simp; refine hK _ ?_; clear hK K)
  refine wpM_l _ rfl (fun w' hw' _ => ?_) (fun v34 => ?_)
  · have hg := refUndo_any v u xs l w' (hv.ext hw') (hu.ext hw') hr hr2
    unfold makes
    go_simp
    exact ⟨Ext.refl _, hg⟩
  refine wpM_x _ rfl (fun w' hw' hk => ?_) ?_
  · have h7 : Writes w' v31 (undoAll xs l) := hk 31 (by decide)
    have h8 : Writes w' v34 (undoAll xs l) := hk 34 (by decide)
    have hg := sameWrites_eq rfl h7 h8
    clear hk h7 h8
    unfold makes
    go_simp
    exact ⟨Ext.refl _, hg⟩
  iterate 2 (refine wpM_p (fun K hK => ?_); go_simp; refine hK _ ?_; clear hK K)
  refine wpM_nil ?_
  intro w2 he2 _
  have hv2 := hv.ext he2
  by_cases h0 : wrongOf xs = 0
  · have hl := right_len h0
    go_wp2_with fail
    refine Calls.drawn (refWrong_any v xs w2 hv2) (fun n1 => ?_)
    rw [h0]
    go_wp2_with fail
    refine Calls.same (Find_any v xs name _ (hv2.ext (Ext.of_drewN _ _)) (by omega)) ?_
    go_wp2_with fail
    refine (refFind_eq (name := name) (hv2.ext (Ext.of_drewN w2 n1)) h0).to fun r w3 e3 hr3 => ?_
    subst hr3
    go_wp2
    go_ret
    exact ⟨_, rfl, (he2.drewN _).trans e3, by simp⟩
  · have hb : (wrongOf xs != 0) = true := by simpa using h0
    go_wp2_with fail
    refine Calls.drawn (refWrong_any v xs w2 hv2) (fun n1 => ?_)
    go_wp2
    go_ret
    exact ⟨_, rfl, he2.drewN _, rfl⟩

end Go.Proofs.Ytdmipnnfoolelaa

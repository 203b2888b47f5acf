/- Walks: the laws CellApart and CellBack. -/
import Derived.Test.YtdmipnnfoolelaaW5
namespace Go.Proofs.Ytdmipnnfoolelaa
open Go.RowKit Go.Mk

set_option maxHeartbeats 1000000 in
theorem CellBack_any (v u : Value) (xs : List Int) (l : List (Int × Int)) (k : Int) (w : World) (hv : Ints w v xs) (hu : Writes w u l) (hr : xs.length * 8 ≤ 140737488355328) (hr2 : l.length * 16 ≤ 140737488355328) :
    Gives Try.prog 5 #[v, u, I k] w fun r _ => r = .bool true := by
  unfold Gives
  obtain ⟨bo, cap', rfl, g1, g2, g3⟩ := hu.form
  clear g3
  unfold maxLen at g2
  go_enter Try.func5, Try.ntmps5
  go_wp2_with fail
  refine (alive_any _).to fun r w1 e1 hr1 => ?_
  subst hr1
  by_cases hk0 : k < 0
  · go_wp2
    go_ret
    exact ⟨_, rfl, e1, rfl⟩
  by_cases hk1 : (l.length : Int) < k
  · go_wp2
    go_ret
    exact ⟨_, rfl, e1, rfl⟩
  have hkc : k.toNat ≤ cap' := by omega
  have hkc' : k ≤ (cap' : Int) := by omega
  have hk2 : 0 ≤ k := by omega
  have hut : Writes w (.slice bo k.toNat cap') (l.take k.toNat) := hu.take k.toNat (by omega)
  have htl : (l.take k.toNat).length * 16 ≤ 140737488355328 := by simp; omega
  have hul : (undoAll xs l).length * 16 ≤ 140737488355328 := by have := undoAll_len xs l; omega
  have hul2 : (undoAll xs (l.take k.toNat)).length * 16 ≤ 140737488355328 := by have := undoAll_len xs (l.take k.toNat); simp at this; omega
  have hsl : (setAll xs l).length * 8 ≤ 140737488355328 := by rw [length_setAll]; exact hr
  have hsl2 : (setAll xs (l.take k.toNat)).length * 8 ≤ 140737488355328 := by rw [length_setAll]; exact hr
  go_wp2_with fail
  refine wp_region_mono [none, none, some (.inr fun r w' => Ints w' r (setAll xs l)), none, none, some (.inr fun r w' => Writes w' r (undoAll xs l)), some (.inr fun r w' => Ints w' r xs), none, some (.inl (.bool true)), none,
    none, none, none, none, some (.inr fun r w' => Ints w' r (setAll xs (l.take k.toNat))), none, none, none, none, some (.inr fun r w' => Writes w' r (undoAll xs (l.take k.toNat))), some (.inr fun r w' => Ints w' r xs), none, some (.inl (.bool true)), none, none] (by kernel_rfl) (by kernel_rfl) ?_ ?_
  · exact ⟨trivial, trivial, monoInts _, trivial, trivial, monoWrites _, monoInts _, trivial, trivial, trivial, trivial, trivial, trivial, trivial, monoInts _, trivial, trivial, trivial, trivial, monoWrites _, monoInts _, trivial, trivial, trivial, trivial, trivial⟩
  have hv1 := hv.ext e1
  have hu1 := hu.ext e1
  have hut1 := hut.ext e1
  iterate 2 (refine wpM_p (fun K hK => ?_); go_simp; refine hK _ ?_; clear hK K)
  refine wpM_l _ rfl (fun w' hw' _ => ?_) (fun v19 => ?_)
  · have hg := Set_any v _ xs l w' (hv1.ext hw') (hu1.ext hw') hr hr2
    unfold makes
    go_simp
    exact ⟨Ext.refl _, hg⟩
  iterate 2 (refine wpM_p (fun K hK => ?_); go_simp; refine hK _ ?_; clear hK K)
  refine wpM_l _ rfl (fun w' hw' _ => ?_) (fun v22 => ?_)
  · have hg := Undo_any v _ xs l w' (hv1.ext hw') (hu1.ext hw') hr hr2
    unfold makes
    go_simp
    exact ⟨Ext.refl _, hg⟩
  refine wpM_l _ rfl (fun w' hw' hk => ?_) (fun v23 => ?_)
  · have h7 : Ints w' v19 (setAll xs l) := hk 19 (by decide)
    have h8 : Writes w' v22 (undoAll xs l) := hk 22 (by decide)
    have hg := Set_any v19 v22 _ _ w' h7 h8 hsl hul
    rw [set_undo] at hg
    clear hk h7 h8
    unfold makes
    go_simp
    exact ⟨Ext.refl _, hg⟩
  iterate 1 (refine wpM_p (fun K hK => ?_); go_simp; refine hK _ ?_; clear hK K)
  refine wpM_x _ rfl (fun w' hw' hk => ?_) ?_
  · have h7 : Ints w' v23 xs := hk 23 (by decide)
    have hg := sameInts_eq rfl h7 (hv1.ext hw')
    clear hk h7
    unfold makes
    go_simp
    exact ⟨Ext.refl _, hg⟩
  iterate 5 (refine wpM_p (fun K hK => ?_); go_simp; refine hK _ ?_; clear hK K)
  refine wpM_l _ rfl (fun w' hw' _ => ?_) (fun v31 => ?_)
  · have hg := Set_any v _ xs _ w' (hv1.ext hw') (hut1.ext hw') hr htl
    unfold makes
    go_simp
    exact ⟨Ext.refl _, hg⟩
  iterate 4 (refine wpM_p (fun K hK => ?_); go_simp; refine hK _ ?_; clear hK K)
  refine wpM_l _ rfl (fun w' hw' _ => ?_) (fun v36 => ?_)
  · have hg := Undo_any v _ xs _ w' (hv1.ext hw') (hut1.ext hw') hr htl
    unfold makes
    go_simp
    exact ⟨Ext.refl _, hg⟩
  refine wpM_l _ rfl (fun w' hw' hk => ?_) (fun v37 => ?_)
  · have h7 : Ints w' v31 (setAll xs (l.take k.toNat)) := hk 31 (by decide)
    have h8 : Writes w' v36 (undoAll xs (l.take k.toNat)) := hk 36 (by decide)
    have hg := Set_any v31 v36 _ _ w' h7 h8 hsl2 hul2
    rw [set_undo] at hg
    clear hk h7 h8
    unfold makes
    go_simp
    exact ⟨Ext.refl _, hg⟩
  iterate 1 (refine wpM_p (fun K hK => ?_); go_simp; refine hK _ ?_; clear hK K)
  refine wpM_x _ rfl (fun w' hw' hk => ?_) ?_
  · have h7 : Ints w' v37 xs := hk 37 (by decide)
    have hg := sameInts_eq rfl h7 (hv1.ext hw')
    clear hk h7
    unfold makes
    go_simp
    exact ⟨Ext.refl _, hg⟩
  iterate 2 (refine wpM_p (fun K hK => ?_); go_simp; refine hK _ ?_; clear hK K)
  refine wpM_nil ?_
  intro w2 he2 _
  go_wp2
  go_ret
  exact ⟨rfl, e1.trans he2⟩

set_option maxHeartbeats 1000000 in
theorem CellApart_any (v : Value) (xs : List Int) (a b : Int × Int) (w : World) (hv : Ints w v xs) (hr : xs.length * 8 ≤ 140737488355328) :
    Gives Try.prog 4 #[v, .agg #[I a.1, I a.2], .agg #[I b.1, I b.2]] w fun r _ => r = .bool true := by
  unfold Gives
  obtain ⟨a1, a2⟩ := a
  obtain ⟨b1, b2⟩ := b
  go_enter Try.func4, Try.ntmps4
  go_wp2_with fail
  have he0 : Ext w ((w.alloc (Obj.cells #[I a1, I a2] 34)).alloc (Obj.cells #[I b1, I b2] 34)) := ((Ext.refl w).alloc _).alloc _
  have ca1 : ((w.alloc (Obj.cells #[I a1, I a2] 34)).alloc (Obj.cells #[I b1, I b2] 34)).cell? ⟨w.heap.size, 0, none⟩ = some (I a1) := by simp
  have ca2 : ((w.alloc (Obj.cells #[I a1, I a2] 34)).alloc (Obj.cells #[I b1, I b2] 34)).cell? ⟨w.heap.size, 1, none⟩ = some (I a2) := by simp
  have cb1 : ((w.alloc (Obj.cells #[I a1, I a2] 34)).alloc (Obj.cells #[I b1, I b2] 34)).cell? ⟨w.heap.size + 1, 0, none⟩ = some (I b1) := by simp
  have cb2 : ((w.alloc (Obj.cells #[I a1, I a2] 34)).alloc (Obj.cells #[I b1, I b2] 34)).cell? ⟨w.heap.size + 1, 1, none⟩ = some (I b2) := by simp
  refine (alive_any _).to fun r w1 e1 hr1 => ?_
  subst hr1
  replace ca1 := e1.cell ca1
  replace ca2 := e1.cell ca2
  replace cb1 := e1.cell cb1
  replace cb2 := e1.cell cb2
  replace he0 := he0.trans e1
  clear e1
  by_cases hab : a1 = b1
  · have hb : (a1 == b1) = true := by simp [hab]
    clear hab
    go_wp2
    go_ret
    exact ⟨_, rfl, he0, rfl⟩
  have hb : (a1 == b1) = false := by simpa using hab
  have HAB : Hid (¬ a1 = b1) := hab
  clear hab
  have hv1 := hv.ext he0
  have hsl : (setAll xs [(a1, a2)]).length * 8 ≤ 140737488355328 := by rw [length_setAll]; exact hr
  go_wp2_with fail
  refine wp_region_mono [none, none, none, some (.inr fun r w' => Writes w' r [(a1, a2), (b1, b2)]), some (.inr fun r w' => Ints w' r (setAll xs [(a1, a2), (b1, b2)])), none, none, none, some (.inr fun r w' => Writes w' r [(b1, b2), (a1, a2)]), some (.inr fun r w' => Ints w' r (setAll xs [(b1, b2), (a1, a2)])), some (.inl (.bool true)), none,
    none, none, some (.inr fun r w' => Writes w' r [(a1, a2)]), some (.inr fun r w' => Ints w' r (setAll xs [(a1, a2)])), none, some (.inr fun r w' => Writes w' r [(b1, b2)]), some (.inr fun r w' => Ints w' r (setAll (setAll xs [(a1, a2)]) [(b1, b2)])), none, none, none, some (.inr fun r w' => Writes w' r [(a1, a2), (b1, b2)]), some (.inr fun r w' => Ints w' r (setAll xs [(a1, a2), (b1, b2)])), some (.inl (.bool true)), none, none] (by kernel_rfl) (by kernel_rfl) ?_ ?_
  · exact ⟨trivial, trivial, trivial, monoWrites _, monoInts _, trivial, trivial, trivial, monoWrites _, monoInts _, trivial, trivial, trivial, trivial, monoWrites _, monoInts _, trivial, monoWrites _, monoInts _, trivial, trivial, trivial, monoWrites _, monoInts _, trivial, trivial, trivial, trivial⟩
  iterate 1 (refine wpM_p (fun K hK => ?_); go_simp; refine hK _ ?_; clear hK K)
  refine wpM_q (.agg #[I a1, I a2]) rfl (fun w' hw' => by have t1 := hw'.cell ca1; have t2 := hw'.cell ca2; go_simp) ?_
  refine wpM_q (.agg #[I b1, I b2]) rfl (fun w' hw' => by have t1 := hw'.cell cb1; have t2 := hw'.cell cb2; go_simp) ?_
  refine wpM_l _ rfl (fun w' hw' _ => by unfold makes; go_simp; exact ⟨(Ext.refl _).alloc _, writes_lit _ _ _ 2 rfl rfl (by decide)⟩) (fun v17 => ?_)
  refine wpM_l _ rfl (fun w' hw' hk => ?_) (fun v18 => ?_)
  · have h8 : Writes w' v17 [(a1, a2), (b1, b2)] := hk 17 (by decide)
    have hg := Set_any v v17 _ _ w' (hv1.ext hw') h8 hr (by simp)
    clear hk h8
    unfold makes
    go_simp
    exact ⟨Ext.refl _, hg⟩
  iterate 1 (refine wpM_p (fun K hK => ?_); go_simp; refine hK _ ?_; clear hK K)
  refine wpM_q (.agg #[I b1, I b2]) rfl (fun w' hw' => by have t1 := hw'.cell cb1; have t2 := hw'.cell cb2; go_simp) ?_
  refine wpM_q (.agg #[I a1, I a2]) rfl (fun w' hw' => by have t1 := hw'.cell ca1; have t2 := hw'.cell ca2; go_simp) ?_
  refine wpM_l _ rfl (fun w' hw' _ => by unfold makes; go_simp; exact ⟨(Ext.refl _).alloc _, writes_lit _ _ _ 2 rfl rfl (by decide)⟩) (fun v22 => ?_)
  refine wpM_l _ rfl (fun w' hw' hk => ?_) (fun v23 => ?_)
  · have h8 : Writes w' v22 [(b1, b2), (a1, a2)] := hk 22 (by decide)
    have hg := Set_any v v22 _ _ w' (hv1.ext hw') h8 hr (by simp)
    clear hk h8
    unfold makes
    go_simp
    exact ⟨Ext.refl _, hg⟩
  refine wpM_x _ rfl (fun w' hw' hk => ?_) ?_
  · have h7 : Ints w' v18 (setAll xs [(a1, a2), (b1, b2)]) := hk 18 (by decide)
    have h8 : Ints w' v23 (setAll xs [(b1, b2), (a1, a2)]) := hk 23 (by decide)
    have hg := sameInts_eq (set_apart xs (a1, a2) (b1, b2) HAB.out) h7 h8
    clear hk h7 h8
    unfold makes
    go_simp
    exact ⟨Ext.refl _, hg⟩
  iterate 2 (refine wpM_p (fun K hK => ?_); go_simp; refine hK _ ?_; clear hK K)
  refine wpM_q (.agg #[I a1, I a2]) rfl (fun w' hw' => by have t1 := hw'.cell ca1; have t2 := hw'.cell ca2; go_simp) ?_
  refine wpM_l _ rfl (fun w' hw' _ => by unfold makes; go_simp; exact ⟨(Ext.refl _).alloc _, writes_lit _ _ _ 1 rfl rfl (by decide)⟩) (fun v28 => ?_)
  refine wpM_l _ rfl (fun w' hw' hk => ?_) (fun v29 => ?_)
  · have h8 : Writes w' v28 [(a1, a2)] := hk 28 (by decide)
    have hg := Set_any v v28 _ _ w' (hv1.ext hw') h8 hr (by simp)
    clear hk h8
    unfold makes
    go_simp
    exact ⟨Ext.refl _, hg⟩
  refine wpM_q (.agg #[I b1, I b2]) rfl (fun w' hw' => by have t1 := hw'.cell cb1; have t2 := hw'.cell cb2; go_simp) ?_
  refine wpM_l _ rfl (fun w' hw' _ => by unfold makes; go_simp; exact ⟨(Ext.refl _).alloc _, writes_lit _ _ _ 1 rfl rfl (by decide)⟩) (fun v31 => ?_)
  refine wpM_l _ rfl (fun w' hw' hk => ?_) (fun v32 => ?_)
  · have h8 : Writes w' v31 [(b1, b2)] := hk 31 (by decide)
    have h7 : Ints w' v29 (setAll xs [(a1, a2)]) := hk 29 (by decide)
    have hg := Set_any v29 v31 _ _ w' h7 h8 hsl (by simp)
    clear hk h8
    unfold makes
    go_simp
    exact ⟨Ext.refl _, hg⟩
  iterate 1 (refine wpM_p (fun K hK => ?_); go_simp; refine hK _ ?_; clear hK K)
  refine wpM_q (.agg #[I a1, I a2]) rfl (fun w' hw' => by have t1 := hw'.cell ca1; have t2 := hw'.cell ca2; go_simp) ?_
  refine wpM_q (.agg #[I b1, I b2]) rfl (fun w' hw' => by have t1 := hw'.cell cb1; have t2 := hw'.cell cb2; go_simp) ?_
  refine wpM_l _ rfl (fun w' hw' _ => by unfold makes; go_simp; exact ⟨(Ext.refl _).alloc _, writes_lit _ _ _ 2 rfl rfl (by decide)⟩) (fun v36 => ?_)
  refine wpM_l _ rfl (fun w' hw' hk => ?_) (fun v37 => ?_)
  · have h8 : Writes w' v36 [(a1, a2), (b1, b2)] := hk 36 (by decide)
    have hg := Set_any v v36 _ _ w' (hv1.ext hw') h8 hr (by simp)
    clear hk h8
    unfold makes
    go_simp
    exact ⟨Ext.refl _, hg⟩
  refine wpM_x _ rfl (fun w' hw' hk => ?_) ?_
  · have h7 : Ints w' v32 (setAll (setAll xs [(a1, a2)]) [(b1, b2)]) := hk 32 (by decide)
    have h8 : Ints w' v37 (setAll xs [(a1, a2), (b1, b2)]) := hk 37 (by decide)
    have hg := sameInts_eq rfl h7 h8
    clear hk h7 h8
    unfold makes
    go_simp
    exact ⟨Ext.refl _, hg⟩
  iterate 2 (refine wpM_p (fun K hK => ?_); go_simp; refine hK _ ?_; clear hK K)
  refine wpM_nil ?_
  intro w2 he2 _
  go_wp2
  go_ret
  exact ⟨rfl, he0.trans he2⟩

end Go.Proofs.Ytdmipnnfoolelaa

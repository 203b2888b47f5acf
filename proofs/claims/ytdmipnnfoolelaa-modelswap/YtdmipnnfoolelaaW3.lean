/- Walks: what takes writes back. -/
import Derived.Test.YtdmipnnfoolelaaW2
import Derived.BigRegion
namespace Go.Proofs.Ytdmipnnfoolelaa
open Go.RowKit Go.Mk

set_option maxHeartbeats 1000000 in
theorem reverse_any (v : Value) (us : List (Int × Int)) (n base : Nat) (w : World) (ho : w.ownsRow base 34 2 v n (cells2 us)) (hr : us.length * 16 ≤ 140737488355328) :
    Calls Try.prog 35 #[v] w fun e w' => e = .returned (.tuple #[]) ∧ w'.ownsRow base 34 2 v n (cells2 us.reverse) ∧ w.grownBy w' v.ownBlock := by
  have hn : us.length = n := by have := ho.1; rw [length_cells2] at this; omega
  rcases ho.2 with ⟨rfl, hz⟩ | ⟨g, cap, cur, rfl, hb, hg, hnc, hcm, _⟩
  · have : us = [] := List.eq_nil_of_length_eq_zero (by omega)
    subst this
    go_enter Try.func35, Try.ntmps35
    go_wp2
    refine wp_loop_rounds 1 ?_
    rw [rounds_succ]
    go_wp2
    go_end0
    exact ⟨rfl, ho, World.grownBy.refl _ _⟩
  · clear hg
    unfold maxLen at hcm
    go_enter Try.func35, Try.ntmps35
    go_wp2
    go_loopw [2, 3] (fun i j wr => ∃ k : Nat, 2 * k ≤ n ∧ i = I k ∧ j = I ((n : Int) - 1 - k) ∧ wr.ownsRow base 34 2 (.slice (some ⟨g, 0, none⟩) n cap) n (cells2 (rv us k)) ∧ w.grownBy wr (some g)) (fun i _ _ => n - (intOf i).toNat)
    case atStart => exact ⟨0, by omega, rfl, by simp, by rw [rv_zero]; exact ho, World.grownBy.refl _ _⟩
    case round =>
      obtain ⟨k, hk, rfl, rfl, hown, hgr⟩ := hrel
      by_cases hlt : 2 * k + 1 < n
      · have hlen := length_rv us k
        obtain ⟨r1, r2⟩ := rv_at us k (by omega)
        obtain ⟨c1, c2⟩ := cells2_at (rv us k) k (by omega)
        obtain ⟨c3, c4⟩ := cells2_at (rv us k) (us.length - 1 - k) (by omega)
        rw [r1] at c1 c2
        rw [r2] at c3 c4
        rw [← hown.cellAt _ (by omega)] at c1 c2 c3 c4
        have HS : Hid (rv us (k + 1) = ((rv us k).set k (us.getD (us.length - 1 - k) (0, 0))).set (us.length - 1 - k) (us.getD k (0, 0))) := rv_step us k (by omega)
        generalize us.getD k (0, 0) = p at *
        generalize us.getD (us.length - 1 - k) (0, 0) = q at *
        obtain ⟨p1, p2⟩ := p
        obtain ⟨q1, q2⟩ := q
        simp only [] at c1 c2 c3 c4
        have hj : us.length - 1 - k = n - 1 - k := by rw [hn]
        rw [hj] at c3 c4 HS
        generalize hJ : n - 1 - k = J at *
        have hJ' : (n : Int) - 1 - k = (J : Int) := by omega
        rw [hJ']
        go_wp2_with fail
        have f1 : wr.frozen? ⟨g, k * 2, none⟩ = false := hown.frozenAt _
        have f2 : wr.frozen? ⟨g, k * 2 + 1, none⟩ = false := hown.frozenAt _
        have f3 : wr.frozen? ⟨g, J * 2, none⟩ = false := hown.frozenAt _
        have f4 : wr.frozen? ⟨g, J * 2 + 1, none⟩ = false := hown.frozenAt _
        have hJn : J < n := by omega
        have hkn : k < n := by omega
        have hkJ : k < J := by omega
        go_region
        have s1 := hown.stored (k * 2) (I q1)
        have s2 := s1.1.stored (k * 2 + 1) (I q2)
        have s3 := s2.1.stored (J * 2) (I p1)
        have s4 := s3.1.stored (J * 2 + 1) (I p2)
        have hgr' : w.grownBy _ (some g) := grown_trans (grown_trans (grown_trans (grown_trans hgr s1.2) s2.2) s3.2) s4.2
        have hown' := s4.1
        clear s1 s2 s3 s4 c1 c2 c3 c4 f1 f2 f3 f4
        go_wp2
        go_roundw
        case rel =>
          refine ⟨k + 1, by omega, by go_num, by go_num, ?_, grown_drew hgr'⟩
          rw [HS.out, cells2_set, cells2_set]
          exact hown'
        case measure => simp [intOf]; omega
      · go_wp2
        go_end0
        rw [rv_end us k (by omega)] at hown
        exact ⟨rfl, hown, hgr⟩

set_option maxHeartbeats 1000000 in
theorem Undo_own (v u : Value) (xs : List Int) (l : List (Int × Int)) (w : World) (hv : Ints w v xs) (hu : Writes w u l) (hr : xs.length * 8 ≤ 140737488355328) (hr2 : l.length * 16 ≤ 140737488355328) :
    Gives Try.prog 16 #[v, u] w fun r w' => ∃ n, w'.ownsRow w.heap.size 34 2 r n (cells2 (undoAll xs l)) := by
  unfold Gives
  obtain ⟨i0, hi, hz0, hz1, hz2⟩ := info_parts Try.infoWrite
  obtain ⟨ao, cap, rfl, h1, h2, h3⟩ := hu.form
  unfold maxLen at h2
  go_enter Try.func16, Try.ntmps16
  go_wp2_with fail
  refine (own_any v xs _ hv hr).mono ?_
  rintro e w1 ⟨rfl, hown, he⟩
  generalize hg : w.heap.size = g at hown ⊢
  have HG : Hid (w.heap.size = g) := hg
  clear hg
  have hsz1 : g + 1 ≤ w1.heap.size := (hown.lt g rfl).2
  go_wp2_with fail
  go_loopw [6, 13] (fun o i wr => ∃ k : Nat, k ≤ l.length ∧ i = I k ∧ wr.ownsRow g 3 1 (.slice (some ⟨g, 0, none⟩) xs.length xs.length) xs.length ((setAll xs (l.take k)).map I) ∧
      wr.ownsRow (g + 1) 34 2 o (undoAll xs (l.take k)).reverse.length (cells2 (undoAll xs (l.take k)).reverse) ∧ g + 1 ≤ wr.heap.size ∧ Ext w wr) (fun _ i _ => l.length - (intOf i).toNat)
  case atStart => exact ⟨0, by omega, rfl, hown, World.ownsRow_nil _ _ _ _, hsz1, he⟩
  case round =>
    obtain ⟨k, hk, rfl, hown', hout, hsz, he'⟩ := hrel
    clear hown he
    have hul : (undoAll xs (l.take k)).reverse.length ≤ k := by have := undoAll_len xs (l.take k); simp at this ⊢; omega
    have h6 := hout.lt
    by_cases hlt : k < l.length
    · obtain ⟨b, off, rfl, hc1, hc2⟩ := h3 k hlt
      clear h3
      have hd1 := he'.cell hc1
      have hd2 := he'.cell hc2
      clear hc1 hc2
      generalize hp : l.getD k (0, 0) = p at hd1 hd2
      have HP : Hid (l[k]? = some p) := by unfold Hid; rw [← hp]; simp [hlt]
      clear hp
      obtain ⟨at_, n⟩ := p
      simp only [] at hd1 hd2
      have hyl : (setAll xs (l.take k)).length = xs.length := length_setAll _ _
      have HN : Hid (setAll xs (l.take (k + 1)) = set1 (setAll xs (l.take k)) (at_, n)) := by unfold Hid; rw [List.take_add_one, HP.out]; exact setAll_snoc _ _ _
      have HU : Hid ((undoAll xs (l.take (k + 1))).reverse = (undoAll xs (l.take k)).reverse ++ (if 0 ≤ at_ ∧ at_ < (xs.length : Int) then [(at_, (setAll xs (l.take k)).getD at_.toNat 0)] else [])) := by
        unfold Hid
        rw [List.take_add_one, HP.out]
        show (undoAll xs (l.take k ++ [(at_, n)])).reverse = _
        rw [undoAll_snoc, List.reverse_append]
        split <;> simp
      generalize setAll xs (l.take k) = ys at hown' HN HU hyl
      generalize (undoAll xs (l.take k)).reverse = us at hout HU hul
      have HYL : Hid (ys.length = xs.length) := hyl
      clear hyl
      have hown2 := fun o => hown'.alloc o
      have fz : ∀ o, (wr.alloc o).frozen? ⟨g, at_.toNat, none⟩ = false := fun o => (hown2 o).frozenAt _
      by_cases hin : 0 ≤ at_ ∧ at_ < (xs.length : Int)
      · obtain ⟨i1, i2⟩ := hin
        have hc : ∀ o, (wr.alloc o).cell? ⟨g, at_.toNat, none⟩ = some (I (ys.getD at_.toNat 0)) := fun o => by
          rw [(hown2 o).cellAt _ (by omega)]
          have : at_.toNat < ys.length := by rw [HYL.out]; omega
          simp [this]
        have i3 : at_ < (ys.length : Int) := by rw [HYL.out]; exact i2
        go_wp2_with (go_at_call 34; refine Calls.same (has_any _ ys at_ _ (ints_of_owns (hown2 _))) ?_)
        have hout2 := hout.alloc (Obj.cells #[Value.int IntKind.i64 at_, Value.int IntKind.i64 n] 34)
        have hown3 := hown2 (Obj.cells #[Value.int IntKind.i64 at_, Value.int IntKind.i64 n] 34)
        have he3 := he'.alloc (Obj.cells #[Value.int IntKind.i64 at_, Value.int IntKind.i64 n] 34)
        have hsz3 : g + 1 ≤ (wr.alloc (Obj.cells #[Value.int IntKind.i64 at_, Value.int IntKind.i64 n] 34)).heap.size := by simp; omega
        have e1 : (wr.alloc (Obj.cells #[Value.int IntKind.i64 at_, Value.int IntKind.i64 n] 34)).cell? ⟨wr.heap.size, 0, none⟩ = some (I at_) := by simp
        have e1' : (wr.alloc (Obj.cells #[Value.int IntKind.i64 at_, Value.int IntKind.i64 n] 34)).cell? ⟨wr.heap.size, 1, none⟩ = some (I n) := by simp
        have e2 := hc (Obj.cells #[Value.int IntKind.i64 at_, Value.int IntKind.i64 n] 34)
        have hwr : wr.heap.size < (wr.alloc (Obj.cells #[Value.int IntKind.i64 at_, Value.int IntKind.i64 n] 34)).heap.size := by simp
        generalize wr.alloc (Obj.cells #[Value.int IntKind.i64 at_, Value.int IntKind.i64 n] 34) = W at *
        clear hd1 hd2 hown2 fz hc hown' hout hsz he'
        generalize hY : ys.getD at_.toNat 0 = y at *
        refine wp_region_mono_tail 10 [none, none, none, none, none, none, none, none, none, some (.inr fun v w => Writes w v [(at_, y)])] (by kernel_rfl) (by kernel_rfl) ?_ ?_
        · exact ⟨trivial, trivial, trivial, trivial, trivial, trivial, trivial, trivial, trivial, monoWrites _, trivial⟩
        iterate 2 (refine wpM_p (fun K hK => ?_); go_simp; refine hK _ ?_; clear hK K)
        refine wpM_q (I at_) rfl (fun w' hw' => by have := hw'.cell e1; go_simp) ?_
        iterate 2 (refine wpM_p (fun K hK => ?_); go_simp; refine hK _ ?_; clear hK K)
        refine wpM_q (I at_) rfl (fun w' hw' => by have := hw'.cell e1; go_simp) ?_
        iterate 1 (refine wpM_p (fun K hK => ?_); go_simp; refine hK _ ?_; clear hK K)
        refine wpM_q (I y) rfl (fun w' hw' => by have := hw'.cell e2; go_simp) ?_
        iterate 1 (refine wpM_p (fun K hK => ?_); go_simp; refine hK _ ?_; clear hK K)
        refine wpM_l _ rfl (fun w' hw' _ => ?_) (fun v30 => ?_)
        · unfold makes
          go_simp
          exact ⟨(Ext.refl _).alloc _, writes_lit _ _ _ 1 rfl rfl (by decide)⟩
        refine wpM_nil ?_
        intro w2 he2 hF
        have h30 : Writes w2 v30 [(at_, y)] := hF 30
        clear hF
        have e3 := he2.cell e1
        have e3' := he2.cell e1'
        refine wpList_append_row _ rfl (.tmp 21) (.tmp 30) 23 rfl (g + 1) 34 i0 _ 2 16 Try.underlying23 hi hz0 hz1 hz2 rfl (by decide) u6 us.length (cells2 us) rfl ?_ v30 rfl 1 _ h30 (cells2_one _) (by omega) (by decide) ?_ ?_
        · exact owns_ext hout2 he2
        · exact Nat.le_trans hsz3 he2.size
        intro o' w3 ho hg3
        have hneg : u6.ownBlock ≠ some g := fun e => by have := (h6 g e).1; omega
        have hnep : u6.ownBlock ≠ some wr.heap.size := fun e => by have := (h6 _ e).2; omega
        have e4 := grown_cell hg3 e3 hnep
        have e4' := grown_cell hg3 e3' hnep
        have hown4 := (owns_ext hown3 he2).kept hg3 (.inr (fun e => hneg e.symm))
        have he4 : Ext w w3 := (he3.trans he2).grown hg3 (fun k hk => by have := (h6 k hk).1; have := HG.out; omega)
        have hsz4 : g + 1 ≤ w3.heap.size := Nat.le_trans hsz3 (Nat.le_trans he2.size hg3.size)
        have e5 : w3.cell? ⟨g, at_.toNat, none⟩ = some (I y) := grown_cell hg3 (he2.cell e2) hneg
        have f5 : w3.frozen? ⟨g, at_.toNat, none⟩ = false := hown4.frozenAt _
        clear e1 e1' e2 e3 e3' hown3 hout2 he3 hsz3 hg3 he2 h30 hwr
        go_wp2
        go_roundw
        case rel =>
          have hst := hown4.stored at_.toNat (I n)
          have ho2 := ho.kept hst.2 (.inr (fun e => by have := (ho.lt g e).1; omega))
          refine ⟨k + 1, by omega, by go_num, ?_, ?_, by simpa using hsz4, he4.setCell (by rw [HG.out]; exact Nat.le_refl _) _⟩
          · rw [HN.out]
            unfold set1
            rw [if_pos ⟨i1, i3⟩, List.map_set]
            exact hst.1
          · rw [HU.out, if_pos ⟨i1, i2⟩, cells2_append, List.length_append]
            exact ho2
        case measure => simp [intOf]; omega
      · have hdc : decide (0 ≤ at_ ∧ at_ < (ys.length : Int)) = false := by rw [HYL.out]; simp; omega
        go_wp2_with (go_at_call 34; refine Calls.same (has_any _ ys at_ _ (ints_of_owns (hown2 _))) ?_)
        go_roundw
        case rel =>
          refine ⟨k + 1, by omega, by go_num, ?_, ?_, by simp; omega, he'.alloc _⟩
          · rw [HN.out]
            unfold set1
            rw [if_neg (by rw [HYL.out]; exact hin)]
            exact hown2 _
          · rw [HU.out, if_neg hin, List.append_nil]
            exact hout.alloc _
        case measure => simp [intOf]; omega
    · rw [List.take_of_length_le (by omega)] at hout
      clear hown' h3
      go_wp2_with fail
      refine (reverse_any _ _ _ _ _ hout (by have := undoAll_len xs l; simp; omega)).mono ?_
      rintro e w3 ⟨rfl, ho, hg⟩
      rw [List.reverse_reverse] at ho
      have he3 : Ext w w3 := he'.grown hg (fun k hk => by have := (h6 k hk).1; have := HG.out; omega)
      clear hg
      go_wp2
      go_ret
      exact ⟨_, rfl, he3, _, owns_base ho (by have := HG.out; omega)⟩

theorem Undo_any (v u : Value) (xs : List Int) (l : List (Int × Int)) (w : World) (hv : Ints w v xs) (hu : Writes w u l) (hr : xs.length * 8 ≤ 140737488355328) (hr2 : l.length * 16 ≤ 140737488355328) :
    Gives Try.prog 16 #[v, u] w fun r w' => Writes w' r (undoAll xs l) := (Undo_own v u xs l w hv hu hr hr2).mono fun _ _ _ ⟨_, h⟩ => writes_of_owns h

end Go.Proofs.Ytdmipnnfoolelaa

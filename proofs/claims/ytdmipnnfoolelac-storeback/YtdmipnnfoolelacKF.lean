/- Texts of the proof, merged: W2 W3 W4 S7 S8 S9 S10. -/
import Derived.Test.YtdmipnnfoolelacKE
import Derived.Test.YtdmipnnfoolelacKD
import Derived.BigRegion
import Derived.Test.YtdmipnnfoolelacKC

namespace Go.Proofs.Ytdmipnnfoolelac
open Go.RowKit Go.Mk

set_option maxRecDepth 100000 in
set_option maxHeartbeats 400000 in
theorem own_any (v : Value) (xs : List Int) (w : World) (hv : Ints w v xs) (hr : xs.length * 8 ≤ 140737488355328) :
    Calls Try.prog 65 #[v] w fun e w' => e = .returned (.slice (some ⟨w.heap.size, 0, none⟩) xs.length xs.length) ∧ w'.ownsRow w.heap.size 3 1 (.slice (some ⟨w.heap.size, 0, none⟩) xs.length xs.length) xs.length (xs.map I) ∧ Ext w w' := by
  obtain ⟨i0, hi, hz0, hz1, hz2⟩ := info_parts Try.infoInt
  obtain ⟨hlen, ao, cap, rfl, h1, h2, h0, h3⟩ := hv
  unfold maxLen at h2
  go_enter Try.func65, Try.ntmps65
  go_wp2_with (at_make; refine wpList_make_full _ rfl _ _ 43 rfl w.heap.size 3 i0 (.int .i64 0) 1 Try.underlying43 hi hz0 hz1 .i64 .i64 _ _ xs.length rfl rfl rfl rfl (by rw [hz2]; omega) (by unfold maxLen; omega) (Nat.le_refl _) ?_; intro w1 hown hgrow)
  have he1 : Ext w w1 := (Ext.refl w).grown hgrow (fun k hk => by cases hk)
  obtain ⟨w2, hrun, hown2, hgrow2⟩ := run_copy_all (P := Try.prog) w1 43 3 3 Try.underlying43 Try.infoInt1 w.heap.size w.heap.size xs.length _ (xs.map I) _ hown (Row.ext ⟨hlen, ao, cap, rfl, h1, h2, h0, h3⟩ he1) (mapI_one xs)
  have he2 : Ext w w2 := he1.grown hgrow2 (fun k hk => by cases hk; exact Nat.le_refl _)
  rw [hrun]
  clear hrun hown hgrow hgrow2 he1 h3
  go_wp2
  go_ret
  exact ⟨rfl, hown2, he2⟩

set_option maxRecDepth 100000 in
set_option maxHeartbeats 1000000 in
theorem Set_own (v u : Value) (xs : List Int) (l : List (Int × Int)) (w : World) (hv : Ints w v xs) (hu : Writes w u l) (hr : xs.length * 8 ≤ 140737488355328) (hr2 : l.length * 16 ≤ 140737488355328) :
    Gives Try.prog 56 #[v, u] w fun r w' => ∃ n, w'.ownsRow w.heap.size 3 1 r n ((setAll xs l).map I) := by
  unfold Gives
  obtain ⟨ao, cap, rfl, h1, h2, h3⟩ := hu.form
  unfold maxLen at h2
  go_enter Try.func56, Try.ntmps56
  go_wp2_with fail
  refine (own_any v xs _ hv hr).mono ?_
  rintro e w1 ⟨rfl, hown, he⟩
  generalize hg : w.heap.size = g at hown ⊢
  have HG : Hid (w.heap.size = g) := hg
  clear hg
  go_wp2_with fail
  go_loopw [12] (fun i wr => ∃ k : Nat, k ≤ l.length ∧ i = I k ∧ wr.ownsRow g 3 1 (.slice (some ⟨g, 0, none⟩) xs.length xs.length) xs.length ((setAll xs (l.take k)).map I) ∧ Ext w wr) (fun i _ => l.length - (intOf i).toNat)
  case atStart => exact ⟨0, by omega, rfl, hown, he⟩
  case round =>
    obtain ⟨k, hk, rfl, hown', he'⟩ := hrel
    clear hown he
    by_cases hlt : k < l.length
    · obtain ⟨b, off, rfl, hc1, hc2⟩ := h3 k hlt
      clear h3
      have hd1 := he'.cell hc1
      have hd2 := he'.cell hc2
      clear hc1 hc2
      generalize hp : l.getD k (0, 0) = p at hd1 hd2
      have HP : Hid (l[k]? = some p) := by unfold Hid; rw [← hp]; simp [hlt]
      clear hp
      obtain ⟨at_, n⟩ := p
      simp only [] at hd1 hd2
      have hyl : (setAll xs (l.take k)).length = xs.length := length_setAll _ _
      have HN : Hid (setAll xs (l.take (k + 1)) = set1 (setAll xs (l.take k)) (at_, n)) := by unfold Hid; rw [List.take_add_one, HP.out]; exact setAll_snoc _ _ _
      generalize setAll xs (l.take k) = ys at hown' HN hyl
      have HYL : Hid (ys.length = xs.length) := hyl
      clear hyl
      have hown2 := fun o => hown'.alloc o
      have fz : ∀ o, (wr.alloc o).frozen? ⟨g, at_.toNat, none⟩ = false := fun o => (hown2 o).frozenAt _
      by_cases hin : 0 ≤ at_ ∧ at_ < (xs.length : Int)
      · obtain ⟨i1, i2⟩ := hin
        have hc : ∀ o, (wr.alloc o).cell? ⟨g, at_.toNat, none⟩ = some (I (ys.getD at_.toNat 0)) := fun o => by
          rw [(hown2 o).cellAt _ (by omega)]
          have : at_.toNat < ys.length := by rw [HYL.out]; omega
          simp [this]
        have i3 : at_ < (ys.length : Int) := by rw [HYL.out]; exact i2
        go_wp2_with (go_at_call 66; refine Calls.same (has_any _ ys at_ _ (ints_of_owns (hown2 _))) ?_)
        go_roundw
        case rel =>
          refine ⟨k + 1, by omega, by go_num, ?_, (he'.alloc _).setCell (by rw [HG.out]; exact Nat.le_refl _) _⟩
          rw [HN.out]
          unfold set1
          rw [if_pos ⟨i1, i3⟩, List.map_set]
          exact ((hown2 _).stored _ _).1
        case measure => simp [intOf]; omega
      · have hdc : decide (0 ≤ at_ ∧ at_ < (ys.length : Int)) = false := by rw [HYL.out]; simp; omega
        go_wp2_with (go_at_call 66; refine Calls.same (has_any _ ys at_ _ (ints_of_owns (hown2 _))) ?_)
        go_roundw
        case rel =>
          refine ⟨k + 1, by omega, by go_num, ?_, he'.alloc _⟩
          rw [HN.out]
          unfold set1
          rw [if_neg (by rw [HYL.out]; exact hin)]
          exact hown2 _
        case measure => simp [intOf]; omega
    · go_wp2_with fail
      go_ret
      refine ⟨_, rfl, he', xs.length, ?_⟩
      rw [List.take_of_length_le (by omega)] at hown'
      rw [HG.out]
      exact hown'

theorem Set_any (v u : Value) (xs : List Int) (l : List (Int × Int)) (w : World) (hv : Ints w v xs) (hu : Writes w u l) (hr : xs.length * 8 ≤ 140737488355328) (hr2 : l.length * 16 ≤ 140737488355328) :
    Gives Try.prog 56 #[v, u] w fun r w' => Ints w' r (setAll xs l) := (Set_own v u xs l w hv hu hr hr2).mono fun _ _ _ ⟨_, h⟩ => ints_of_owns h

end Go.Proofs.Ytdmipnnfoolelac

namespace Go.Proofs.Ytdmipnnfoolelac
open Go.RowKit Go.Mk

set_option maxHeartbeats 1000000 in
theorem reverse_any (v : Value) (us : List (Int × Int)) (n base : Nat) (w : World) (ho : w.ownsRow base 50 2 v n (cells2 us)) (hr : us.length * 16 ≤ 140737488355328) :
    Calls Try.prog 67 #[v] w fun e w' => e = .returned (.tuple #[]) ∧ w'.ownsRow base 50 2 v n (cells2 us.reverse) ∧ w.grownBy w' v.ownBlock := by
  have hn : us.length = n := by have := ho.1; rw [length_cells2] at this; omega
  rcases ho.2 with ⟨rfl, hz⟩ | ⟨g, cap, cur, rfl, hb, hg, hnc, hcm, _⟩
  · have : us = [] := List.eq_nil_of_length_eq_zero (by omega)
    subst this
    go_enter Try.func67, Try.ntmps67
    go_wp2
    refine wp_loop_rounds 1 ?_
    rw [rounds_succ]
    go_wp2
    go_end0
    exact ⟨rfl, ho, World.grownBy.refl _ _⟩
  · clear hg
    unfold maxLen at hcm
    go_enter Try.func67, Try.ntmps67
    go_wp2
    go_loopw [2, 3] (fun i j wr => ∃ k : Nat, 2 * k ≤ n ∧ i = I k ∧ j = I ((n : Int) - 1 - k) ∧ wr.ownsRow base 50 2 (.slice (some ⟨g, 0, none⟩) n cap) n (cells2 (rv us k)) ∧ w.grownBy wr (some g)) (fun i _ _ => n - (intOf i).toNat)
    case atStart => exact ⟨0, by omega, rfl, by simp, by rw [rv_zero]; exact ho, World.grownBy.refl _ _⟩
    case round =>
      obtain ⟨k, hk, rfl, rfl, hown, hgr⟩ := hrel
      by_cases hlt : 2 * k + 1 < n
      · have hlen := length_rv us k
        obtain ⟨r1, r2⟩ := rv_at us k (by omega)
        obtain ⟨c1, c2⟩ := cells2_at (rv us k) k (by omega)
        obtain ⟨c3, c4⟩ := cells2_at (rv us k) (us.length - 1 - k) (by omega)
        rw [r1] at c1 c2
        rw [r2] at c3 c4
        rw [← hown.cellAt _ (by omega)] at c1 c2 c3 c4
        have HS : Hid (rv us (k + 1) = ((rv us k).set k (us.getD (us.length - 1 - k) (0, 0))).set (us.length - 1 - k) (us.getD k (0, 0))) := rv_step us k (by omega)
        generalize us.getD k (0, 0) = p at *
        generalize us.getD (us.length - 1 - k) (0, 0) = q at *
        obtain ⟨p1, p2⟩ := p
        obtain ⟨q1, q2⟩ := q
        simp only [] at c1 c2 c3 c4
        have hj : us.length - 1 - k = n - 1 - k := by rw [hn]
        rw [hj] at c3 c4 HS
        generalize hJ : n - 1 - k = J at *
        have hJ' : (n : Int) - 1 - k = (J : Int) := by omega
        rw [hJ']
        go_wp2_with fail
        have f1 : wr.frozen? ⟨g, k * 2, none⟩ = false := hown.frozenAt _
        have f2 : wr.frozen? ⟨g, k * 2 + 1, none⟩ = false := hown.frozenAt _
        have f3 : wr.frozen? ⟨g, J * 2, none⟩ = false := hown.frozenAt _
        have f4 : wr.frozen? ⟨g, J * 2 + 1, none⟩ = false := hown.frozenAt _
        have hJn : J < n := by omega
        have hkn : k < n := by omega
        have hkJ : k < J := by omega
        go_region
        have s1 := hown.stored (k * 2) (I q1)
        have s2 := s1.1.stored (k * 2 + 1) (I q2)
        have s3 := s2.1.stored (J * 2) (I p1)
        have s4 := s3.1.stored (J * 2 + 1) (I p2)
        have hgr' : w.grownBy _ (some g) := grown_trans (grown_trans (grown_trans (grown_trans hgr s1.2) s2.2) s3.2) s4.2
        have hown' := s4.1
        clear s1 s2 s3 s4 c1 c2 c3 c4 f1 f2 f3 f4
        go_wp2
        go_roundw
        case rel =>
          refine ⟨k + 1, by omega, by go_num, by go_num, ?_, grown_drew hgr'⟩
          rw [HS.out, cells2_set, cells2_set]
          exact hown'
        case measure => simp [intOf]; omega
      · go_wp2
        go_end0
        rw [rv_end us k (by omega)] at hown
        exact ⟨rfl, hown, hgr⟩

set_option maxHeartbeats 1000000 in
theorem Undo_own (v u : Value) (xs : List Int) (l : List (Int × Int)) (w : World) (hv : Ints w v xs) (hu : Writes w u l) (hr : xs.length * 8 ≤ 140737488355328) (hr2 : l.length * 16 ≤ 140737488355328) :
    Gives Try.prog 55 #[v, u] w fun r w' => ∃ n, w'.ownsRow w.heap.size 50 2 r n (cells2 (undoAll xs l)) := by
  unfold Gives
  obtain ⟨i0, hi, hz0, hz1, hz2⟩ := info_parts Try.infoWrite
  obtain ⟨ao, cap, rfl, h1, h2, h3⟩ := hu.form
  unfold maxLen at h2
  go_enter Try.func55, Try.ntmps55
  go_wp2_with fail
  refine (own_any v xs _ hv hr).mono ?_
  rintro e w1 ⟨rfl, hown, he⟩
  generalize hg : w.heap.size = g at hown ⊢
  have HG : Hid (w.heap.size = g) := hg
  clear hg
  have hsz1 : g + 1 ≤ w1.heap.size := (hown.lt g rfl).2
  go_wp2_with fail
  go_loopw [6, 13] (fun o i wr => ∃ k : Nat, k ≤ l.length ∧ i = I k ∧ wr.ownsRow g 3 1 (.slice (some ⟨g, 0, none⟩) xs.length xs.length) xs.length ((setAll xs (l.take k)).map I) ∧
      wr.ownsRow (g + 1) 50 2 o (undoAll xs (l.take k)).reverse.length (cells2 (undoAll xs (l.take k)).reverse) ∧ g + 1 ≤ wr.heap.size ∧ Ext w wr) (fun _ i _ => l.length - (intOf i).toNat)
  case atStart => exact ⟨0, by omega, rfl, hown, World.ownsRow_nil _ _ _ _, hsz1, he⟩
  case round =>
    obtain ⟨k, hk, rfl, hown', hout, hsz, he'⟩ := hrel
    clear hown he
    have hul : (undoAll xs (l.take k)).reverse.length ≤ k := by have := undoAll_len xs (l.take k); simp at this ⊢; omega
    have h6 := hout.lt
    by_cases hlt : k < l.length
    · obtain ⟨b, off, rfl, hc1, hc2⟩ := h3 k hlt
      clear h3
      have hd1 := he'.cell hc1
      have hd2 := he'.cell hc2
      clear hc1 hc2
      generalize hp : l.getD k (0, 0) = p at hd1 hd2
      have HP : Hid (l[k]? = some p) := by unfold Hid; rw [← hp]; simp [hlt]
      clear hp
      obtain ⟨at_, n⟩ := p
      simp only [] at hd1 hd2
      have hyl : (setAll xs (l.take k)).length = xs.length := length_setAll _ _
      have HN : Hid (setAll xs (l.take (k + 1)) = set1 (setAll xs (l.take k)) (at_, n)) := by unfold Hid; rw [List.take_add_one, HP.out]; exact setAll_snoc _ _ _
      have HU : Hid ((undoAll xs (l.take (k + 1))).reverse = (undoAll xs (l.take k)).reverse ++ (if 0 ≤ at_ ∧ at_ < (xs.length : Int) then [(at_, (setAll xs (l.take k)).getD at_.toNat 0)] else [])) := by
        unfold Hid
        rw [List.take_add_one, HP.out]
        show (undoAll xs (l.take k ++ [(at_, n)])).reverse = _
        rw [undoAll_snoc, List.reverse_append]
        split <;> simp
      generalize setAll xs (l.take k) = ys at hown' HN HU hyl
      generalize (undoAll xs (l.take k)).reverse = us at hout HU hul
      have HYL : Hid (ys.length = xs.length) := hyl
      clear hyl
      have hown2 := fun o => hown'.alloc o
      have fz : ∀ o, (wr.alloc o).frozen? ⟨g, at_.toNat, none⟩ = false := fun o => (hown2 o).frozenAt _
      by_cases hin : 0 ≤ at_ ∧ at_ < (xs.length : Int)
      · obtain ⟨i1, i2⟩ := hin
        have hc : ∀ o, (wr.alloc o).cell? ⟨g, at_.toNat, none⟩ = some (I (ys.getD at_.toNat 0)) := fun o => by
          rw [(hown2 o).cellAt _ (by omega)]
          have : at_.toNat < ys.length := by rw [HYL.out]; omega
          simp [this]
        have i3 : at_ < (ys.length : Int) := by rw [HYL.out]; exact i2
        go_wp2_with (go_at_call 66; refine Calls.same (has_any _ ys at_ _ (ints_of_owns (hown2 _))) ?_)
        have hout2 := hout.alloc (Obj.cells #[Value.int IntKind.i64 at_, Value.int IntKind.i64 n] 50)
        have hown3 := hown2 (Obj.cells #[Value.int IntKind.i64 at_, Value.int IntKind.i64 n] 50)
        have he3 := he'.alloc (Obj.cells #[Value.int IntKind.i64 at_, Value.int IntKind.i64 n] 50)
        have hsz3 : g + 1 ≤ (wr.alloc (Obj.cells #[Value.int IntKind.i64 at_, Value.int IntKind.i64 n] 50)).heap.size := by simp; omega
        have e1 : (wr.alloc (Obj.cells #[Value.int IntKind.i64 at_, Value.int IntKind.i64 n] 50)).cell? ⟨wr.heap.size, 0, none⟩ = some (I at_) := by simp
        have e1' : (wr.alloc (Obj.cells #[Value.int IntKind.i64 at_, Value.int IntKind.i64 n] 50)).cell? ⟨wr.heap.size, 1, none⟩ = some (I n) := by simp
        have e2 := hc (Obj.cells #[Value.int IntKind.i64 at_, Value.int IntKind.i64 n] 50)
        have hwr : wr.heap.size < (wr.alloc (Obj.cells #[Value.int IntKind.i64 at_, Value.int IntKind.i64 n] 50)).heap.size := by simp
        generalize wr.alloc (Obj.cells #[Value.int IntKind.i64 at_, Value.int IntKind.i64 n] 50) = W at *
        clear hd1 hd2 hown2 fz hc hown' hout hsz he'
        generalize hY : ys.getD at_.toNat 0 = y at *
        refine wp_region_mono_tail 10 [none, none, none, none, none, none, none, none, none, some (.inr fun v w => Writes w v [(at_, y)])] (by kernel_rfl) (by kernel_rfl) ?_ ?_
        · exact ⟨trivial, trivial, trivial, trivial, trivial, trivial, trivial, trivial, trivial, monoWrites _, trivial⟩
        iterate 2 (refine wpM_p (fun K hK => ?_); go_simp; refine hK _ ?_; clear hK K)
        refine wpM_q (I at_) rfl (fun w' hw' => by have := hw'.cell e1; go_simp) ?_
        iterate 2 (refine wpM_p (fun K hK => ?_); go_simp; refine hK _ ?_; clear hK K)
        refine wpM_q (I at_) rfl (fun w' hw' => by have := hw'.cell e1; go_simp) ?_
        iterate 1 (refine wpM_p (fun K hK => ?_); go_simp; refine hK _ ?_; clear hK K)
        refine wpM_q (I y) rfl (fun w' hw' => by have := hw'.cell e2; go_simp) ?_
        iterate 1 (refine wpM_p (fun K hK => ?_); go_simp; refine hK _ ?_; clear hK K)
        refine wpM_l _ rfl (fun w' hw' _ => ?_) (fun v30 => ?_)
        · unfold makes
          go_simp
          exact ⟨(Ext.refl _).alloc _, writes_lit _ _ _ 1 rfl rfl (by decide)⟩
        refine wpM_nil ?_
        intro w2 he2 hF
        have h30 : Writes w2 v30 [(at_, y)] := hF 30
        clear hF
        have e3 := he2.cell e1
        have e3' := he2.cell e1'
        refine wpList_append_row _ rfl (.tmp 21) (.tmp 30) 44 rfl (g + 1) 50 i0 _ 2 16 Try.underlying44 hi hz0 hz1 hz2 rfl (by decide) u6 us.length (cells2 us) rfl ?_ v30 rfl 1 _ h30 (cells2_one _) (by omega) (by decide) ?_ ?_
        · exact owns_ext hout2 he2
        · exact Nat.le_trans hsz3 he2.size
        intro o' w3 ho hg3
        have hneg : u6.ownBlock ≠ some g := fun e => by have := (h6 g e).1; omega
        have hnep : u6.ownBlock ≠ some wr.heap.size := fun e => by have := (h6 _ e).2; omega
        have e4 := grown_cell hg3 e3 hnep
        have e4' := grown_cell hg3 e3' hnep
        have hown4 := (owns_ext hown3 he2).kept hg3 (.inr (fun e => hneg e.symm))
        have he4 : Ext w w3 := (he3.trans he2).grown hg3 (fun k hk => by have := (h6 k hk).1; have := HG.out; omega)
        have hsz4 : g + 1 ≤ w3.heap.size := Nat.le_trans hsz3 (Nat.le_trans he2.size hg3.size)
        have e5 : w3.cell? ⟨g, at_.toNat, none⟩ = some (I y) := grown_cell hg3 (he2.cell e2) hneg
        have f5 : w3.frozen? ⟨g, at_.toNat, none⟩ = false := hown4.frozenAt _
        clear e1 e1' e2 e3 e3' hown3 hout2 he3 hsz3 hg3 he2 h30 hwr
        go_wp2
        go_roundw
        case rel =>
          have hst := hown4.stored at_.toNat (I n)
          have ho2 := ho.kept hst.2 (.inr (fun e => by have := (ho.lt g e).1; omega))
          refine ⟨k + 1, by omega, by go_num, ?_, ?_, by simpa using hsz4, he4.setCell (by rw [HG.out]; exact Nat.le_refl _) _⟩
          · rw [HN.out]
            unfold set1
            rw [if_pos ⟨i1, i3⟩, List.map_set]
            exact hst.1
          · rw [HU.out, if_pos ⟨i1, i2⟩, cells2_append, List.length_append]
            exact ho2
        case measure => simp [intOf]; omega
      · have hdc : decide (0 ≤ at_ ∧ at_ < (ys.length : Int)) = false := by rw [HYL.out]; simp; omega
        go_wp2_with (go_at_call 66; refine Calls.same (has_any _ ys at_ _ (ints_of_owns (hown2 _))) ?_)
        go_roundw
        case rel =>
          refine ⟨k + 1, by omega, by go_num, ?_, ?_, by simp; omega, he'.alloc _⟩
          · rw [HN.out]
            unfold set1
            rw [if_neg (by rw [HYL.out]; exact hin)]
            exact hown2 _
          · rw [HU.out, if_neg hin, List.append_nil]
            exact hout.alloc _
        case measure => simp [intOf]; omega
    · rw [List.take_of_length_le (by omega)] at hout
      clear hown' h3
      go_wp2_with fail
      refine (reverse_any _ _ _ _ _ hout (by have := undoAll_len xs l; simp; omega)).mono ?_
      rintro e w3 ⟨rfl, ho, hg⟩
      rw [List.reverse_reverse] at ho
      have he3 : Ext w w3 := he'.grown hg (fun k hk => by have := (h6 k hk).1; have := HG.out; omega)
      clear hg
      go_wp2
      go_ret
      exact ⟨_, rfl, he3, _, owns_base ho (by have := HG.out; omega)⟩

theorem Undo_any (v u : Value) (xs : List Int) (l : List (Int × Int)) (w : World) (hv : Ints w v xs) (hu : Writes w u l) (hr : xs.length * 8 ≤ 140737488355328) (hr2 : l.length * 16 ≤ 140737488355328) :
    Gives Try.prog 55 #[v, u] w fun r w' => Writes w' r (undoAll xs l) := (Undo_own v u xs l w hv hu hr hr2).mono fun _ _ _ ⟨_, h⟩ => writes_of_owns h

end Go.Proofs.Ytdmipnnfoolelac

namespace Go.Proofs.Ytdmipnnfoolelac
open Go.RowKit Go.Mk

set_option maxHeartbeats 400000 in
theorem New_own (w : World) : Gives Try.prog 47 #[] w fun r w' => ∃ n, w'.ownsRow w.heap.size 3 1 r n ((List.replicate 11 (0 : Int)).map I) := by
  unfold Gives
  have hmk : ∀ w, (Instr.makeSlice 43 (.int .i64 11) (.int .i64 11)).run Try.prog w = .ok (.slice (some ⟨w.heap.size, 0, none⟩) 11 11) (w.alloc (.cells (List.replicate 11 (I 0)).toArray 3)) := fun _ => by kernel_rfl
  go_enter Try.func47, Try.ntmps47
  go_wp2
  go_ret
  exact ⟨_, rfl, (Ext.refl _).alloc _, 11, World.ownsRow_lit (base := w.heap.size) (e := 3) (size := 1) w _ 11 (Nat.le_refl _) (by decide) rfl⟩

theorem New_any (w : World) : Gives Try.prog 47 #[] w fun r w' => Ints w' r (List.replicate 11 0) := (New_own w).mono fun _ _ _ ⟨_, h⟩ => ints_of_owns h

end Go.Proofs.Ytdmipnnfoolelac

namespace Go.Proofs.Ytdmipnnfoolelac
open Go.RowKit Go.Mk

set_option maxRecDepth 100000 in
set_option maxHeartbeats 400000 in
theorem own_ints (v : Value) (xs : List Int) (w : World) (hv : Ints w v xs) (hr : xs.length * 8 ≤ 140737488355328) :
    Gives Try.prog 51 #[v] w fun r w' => w'.ownsRow w.heap.size 3 1 r xs.length (xs.map I) := by
  unfold Gives
  obtain ⟨i0, hi, hz0, hz1, hz2⟩ := info_parts Try.infoInt
  have hsz : (Try.prog.info? 3).map (·.size) = some 1 := by rw [hi]; simp [hz1]
  have hrow : Row w 1 v xs.length (xs.map I) := hv
  clear hv
  obtain ⟨hlen, ao, cap, rfl, h1, h2, h0, h3⟩ := hrow
  unfold maxLen at h2
  go_enter Try.func51, Try.ntmps51
  go_wp2_with (at_make; refine wpList_make_full _ rfl _ _ 43 rfl w.heap.size 3 i0 (.int .i64 0) 1 Try.underlying43 hi hz0 hz1 .i64 .i64 _ _ xs.length rfl rfl rfl rfl (by rw [hz2]; omega) (by unfold maxLen; omega) (Nat.le_refl _) ?_; intro w1 hown hgrow)
  have he1 : Ext w w1 := (Ext.refl w).grown hgrow (fun k hk => by cases hk)
  obtain ⟨w2, hrun, hown2, hgrow2⟩ := run_copy_sized (P := Try.prog) w1 43 3 3 1 Try.underlying43 hsz w.heap.size w.heap.size xs.length _ (xs.map I) _ hown (Row.ext ⟨hlen, ao, cap, rfl, h1, h2, h0, h3⟩ he1) (mapI_one xs)
  have he2 : Ext w w2 := he1.grown hgrow2 (fun k hk => by cases hk; exact Nat.le_refl _)
  rw [hrun]
  clear hrun hown hgrow hgrow2 he1 h3
  go_wp2
  go_ret
  exact ⟨_, rfl, he2, hown2⟩

set_option maxRecDepth 100000 in
set_option maxHeartbeats 400000 in
theorem own_writes (v : Value) (xs : List (Int × Int)) (w : World) (hv : Writes w v xs) (hr : xs.length * 16 ≤ 140737488355328) :
    Gives Try.prog 52 #[v] w fun r w' => w'.ownsRow w.heap.size 50 2 r xs.length (cells2 xs) := by
  unfold Gives
  obtain ⟨i0, hi, hz0, hz1, hz2⟩ := info_parts Try.infoWrite
  have hsz : (Try.prog.info? 50).map (·.size) = some 2 := by rw [hi]; simp [hz1]
  have hrow : Row w 2 v xs.length (cells2 xs) := hv
  clear hv
  obtain ⟨hlen, ao, cap, rfl, h1, h2, h0, h3⟩ := hrow
  unfold maxLen at h2
  go_enter Try.func52, Try.ntmps52
  go_wp2_with (at_make; refine wpList_make_full _ rfl _ _ 44 rfl w.heap.size 50 i0 (.agg #[.int .i64 0, .int .i64 0]) 2 Try.underlying44 hi hz0 hz1 .i64 .i64 _ _ xs.length rfl rfl rfl rfl (by rw [hz2]; omega) (by unfold maxLen; omega) (Nat.le_refl _) ?_; intro w1 hown hgrow)
  have he1 : Ext w w1 := (Ext.refl w).grown hgrow (fun k hk => by cases hk)
  obtain ⟨w2, hrun, hown2, hgrow2⟩ := run_copy_sized (P := Try.prog) w1 44 3 50 2 Try.underlying44 hsz w.heap.size w.heap.size xs.length _ (cells2 xs) _ hown (Row.ext ⟨hlen, ao, cap, rfl, h1, h2, h0, h3⟩ he1) (cells2_one xs)
  have he2 : Ext w w2 := he1.grown hgrow2 (fun k hk => by cases hk; exact Nat.le_refl _)
  rw [hrun]
  clear hrun hown hgrow hgrow2 he1 h3
  go_wp2
  go_ret
  exact ⟨_, rfl, he2, hown2⟩

set_option maxRecDepth 100000 in
set_option maxHeartbeats 400000 in
theorem own_anss (v : Value) (xs : List An) (w : World) (hv : RowOf 4 elAn w v xs) (hr : xs.length * 32 ≤ 140737488355328) :
    Gives Try.prog 53 #[v] w fun r w' => w'.ownsRow w.heap.size 30 4 r xs.length (cellsA xs) := by
  unfold Gives
  obtain ⟨i0, hi, hz0, hz1, hz2⟩ := info_parts Try.infoAnswer
  have hsz : (Try.prog.info? 30).map (·.size) = some 4 := by rw [hi]; simp [hz1]
  have hrow : Row w 4 v xs.length (cellsA xs) := (rowOf_flat (f := fun (x : An) => [I x.client, I x.token, I x.reply.err, I x.reply.n]) (fun _ => rfl)).1 hv
  clear hv
  obtain ⟨hlen, ao, cap, rfl, h1, h2, h0, h3⟩ := hrow
  unfold maxLen at h2
  go_enter Try.func53, Try.ntmps53
  go_wp2_with (at_make; refine wpList_make_full _ rfl _ _ 45 rfl w.heap.size 30 i0 (.agg #[.int .i64 0, .int .i64 0, .int .i64 0, .int .i64 0]) 4 Try.underlying45 hi hz0 hz1 .i64 .i64 _ _ xs.length rfl rfl rfl rfl (by rw [hz2]; omega) (by unfold maxLen; omega) (Nat.le_refl _) ?_; intro w1 hown hgrow)
  have he1 : Ext w w1 := (Ext.refl w).grown hgrow (fun k hk => by cases hk)
  obtain ⟨w2, hrun, hown2, hgrow2⟩ := run_copy_sized (P := Try.prog) w1 45 3 30 4 Try.underlying45 hsz w.heap.size w.heap.size xs.length _ (cellsA xs) _ hown (Row.ext ⟨hlen, ao, cap, rfl, h1, h2, h0, h3⟩ he1) (cellsA_one xs)
  have he2 : Ext w w2 := he1.grown hgrow2 (fun k hk => by cases hk; exact Nat.le_refl _)
  rw [hrun]
  clear hrun hown hgrow hgrow2 he1 h3
  go_wp2
  go_ret
  exact ⟨_, rfl, he2, hown2⟩

set_option maxRecDepth 100000 in
set_option maxHeartbeats 400000 in
theorem own_reqs (v : Value) (xs : List Rq) (w : World) (hv : RowOf 6 elRq w v xs) (hr : xs.length * 48 ≤ 140737488355328) :
    Gives Try.prog 54 #[v] w fun r w' => w'.ownsRow w.heap.size 25 6 r xs.length (cells6 xs) := by
  unfold Gives
  obtain ⟨i0, hi, hz0, hz1, hz2⟩ := info_parts Try.infoRequest
  have hsz : (Try.prog.info? 25).map (·.size) = some 6 := by rw [hi]; simp [hz1]
  have hrow : Row w 6 v xs.length (cells6 xs) := rowOf_reqs.1 hv
  clear hv
  obtain ⟨hlen, ao, cap, rfl, h1, h2, h0, h3⟩ := hrow
  unfold maxLen at h2
  go_enter Try.func54, Try.ntmps54
  go_wp2_with (at_make; refine wpList_make_full _ rfl _ _ 46 rfl w.heap.size 25 i0 (.agg #[.int .i64 0, .int .i64 0, .int .i64 0, .int .i64 0, .int .i64 0, .int .i64 0]) 6 Try.underlying46 hi hz0 hz1 .i64 .i64 _ _ xs.length rfl rfl rfl rfl (by rw [hz2]; omega) (by unfold maxLen; omega) (Nat.le_refl _) ?_; intro w1 hown hgrow)
  have he1 : Ext w w1 := (Ext.refl w).grown hgrow (fun k hk => by cases hk)
  obtain ⟨w2, hrun, hown2, hgrow2⟩ := run_copy_sized (P := Try.prog) w1 46 3 25 6 Try.underlying46 hsz w.heap.size w.heap.size xs.length _ (cells6 xs) _ hown (Row.ext ⟨hlen, ao, cap, rfl, h1, h2, h0, h3⟩ he1) (cells6_one xs)
  have he2 : Ext w w2 := he1.grown hgrow2 (fun k hk => by cases hk; exact Nat.le_refl _)
  rw [hrun]
  clear hrun hown hgrow hgrow2 he1 h3
  go_wp2
  go_ret
  exact ⟨_, rfl, he2, hown2⟩

/-- A store in memory of its own. -/
structure OwnSt (base : Nat) (w : World) (c u a p : Value) (s : St) : Prop where
  cells : w.ownsRow base 3 1 c s.cells.length (s.cells.map I)
  undo : w.ownsRow base 50 2 u s.undo.length (cells2 s.undo)
  answers : w.ownsRow base 30 4 a s.answers.length (cellsA s.answers)
  past : w.ownsRow base 25 6 p s.past.length (cells6 s.past)
theorem rd_rqs' {base e n : Nat} {v : Value} {l : List Rq} {w : World} (h : w.ownsRow base e 6 v n (cells6 l)) : Rd (fun k => base ≤ k) (fun w => RowOf 6 elRq w v l) w := rd_rqs h
theorem OwnSt.rd {base : Nat} {w : World} {c u a p : Value} {s : St} (h : OwnSt base w c u a p s) : Rd (fun k => base ≤ k) (fun w => elSt w [c, u, a, p] s) w :=
  st_rd (rd_ints h.cells) (rd_writes h.undo) (rd_anss h.answers) (rd_rqs h.past)
theorem OwnSt.ext {base : Nat} {w w' : World} {c u a p : Value} {s : St} (h : OwnSt base w c u a p s) (he : Ext w w') : OwnSt base w' c u a p s :=
  ⟨owns_ext h.cells he, owns_ext h.undo he, owns_ext h.answers he, owns_ext h.past he⟩
theorem owns_low_ne {w : World} {base e size n b : Nat} {v : Value} {xs : List Value} (h : w.ownsRow base e size v n xs) (hb : b < base) : v.ownBlock ≠ some b := fun e => by have := (h.lt b e).1; omega
theorem OwnSt.set {base : Nat} {w : World} {c u a p : Value} {s : St} (h : OwnSt base w c u a p s) {b : Nat} (hb : b < base) (i : Nat) (x : Value) : OwnSt base (w.setCell ⟨b, i, none⟩ x) c u a p s :=
  ⟨owns_setCell h.cells (owns_low_ne h.cells hb) i x, owns_setCell h.undo (owns_low_ne h.undo hb) i x, owns_setCell h.answers (owns_low_ne h.answers hb) i x, owns_setCell h.past (owns_low_ne h.past hb) i x⟩
theorem OwnSt.low {b1 b2 : Nat} {w : World} {c u a p : Value} {s : St} (h : OwnSt b1 w c u a p s) (hle : b2 ≤ b1) : OwnSt b2 w c u a p s := ⟨owns_base h.cells hle, owns_base h.undo hle, owns_base h.answers hle, owns_base h.past hle⟩
theorem own_slice {w : World} {base e size n : Nat} {v : Value} {xs : List Value} (h : w.ownsRow base e size v n xs) : ∃ ao cap, v = .slice ao n cap := row_slice (Row.of_owns h)

/-- How much a store may hold. -/
def Small (s : St) : Prop := s.cells.length * 8 ≤ 100000000000000 ∧ s.undo.length * 16 ≤ 100000000000000 ∧ s.answers.length * 32 ≤ 100000000000000 ∧ s.past.length * 48 ≤ 100000000000000

set_option maxRecDepth 100000 in
set_option maxHeartbeats 1000000 in
theorem Own_any (c u a p : Value) (s : St) (w : World) (h : elSt w [c, u, a, p] s) (hs : Small s) :
    Gives Try.prog 27 #[.agg #[c, u, a, p]] w fun r w' => ∃ c' u' a' p', r = .agg #[c', u', a', p'] ∧ OwnSt (w.heap.size + 2) w' c' u' a' p' s := by
  unfold Gives
  obtain ⟨h1, h2, h3, h4⟩ := st_iff.1 h
  clear h
  have HS := Lib.hid hs
  clear hs
  unfold Small at HS
  obtain ⟨ca, cc, rfl⟩ := row_slice h1
  obtain ⟨ua, uc, rfl⟩ := row_slice h2
  obtain ⟨aa, ac, rfl⟩ := rowOf_slice h3
  obtain ⟨pa, pc, rfl⟩ := rowOf_slice h4
  generalize hc : Value.slice ca s.cells.length cc = c at *
  generalize hu : Value.slice ua s.undo.length uc = u at *
  generalize ha : Value.slice aa s.answers.length ac = a at *
  generalize hp : Value.slice pa s.past.length pc = p at *
  clear hc hu ha hp
  have e0 : Ext w ((w.alloc (.cells #[c, u, a, p] 48)).alloc (.cells #[.slice none 0 0, .slice none 0 0, .slice none 0 0, .slice none 0 0] 48)) := ((Ext.refl w).alloc _).alloc _
  have HB := Lib.hid (fun wx (h : Ext ((w.alloc (.cells #[c, u, a, p] 48)).alloc (.cells #[.slice none 0 0, .slice none 0 0, .slice none 0 0, .slice none 0 0] 48)) wx) => And.intro (first_block h) (second_block h))
  have hsz : ((w.alloc (.cells #[c, u, a, p] 48)).alloc (.cells #[.slice none 0 0, .slice none 0 0, .slice none 0 0, .slice none 0 0] 48)).heap.size = w.heap.size + 2 := by simp
  have HSZ := Lib.hid hsz
  clear hsz
  go_enter Try.func27, Try.ntmps27
  go_wp2_with fail
  generalize hw0 : (w.alloc (.cells #[c, u, a, p] 48)).alloc (.cells #[.slice none 0 0, .slice none 0 0, .slice none 0 0, .slice none 0 0] 48) = w0 at *
  clear hw0
  obtain ⟨b0, -⟩ := HB.out w0 (Ext.refl _)
  obtain ⟨x0, x1, x2, x3, -⟩ := box4 b0
  clear b0
  refine wp_region_mono_tail 12 [none, none, some (.inr (fun v wx => wx.ownsRow w0.heap.size 3 1 v s.cells.length (s.cells.map I))), none, none, some (.inr (fun v wx => wx.ownsRow w0.heap.size 50 2 v s.undo.length (cells2 s.undo))), none, none, some (.inr (fun v wx => wx.ownsRow w0.heap.size 30 4 v s.answers.length (cellsA s.answers))), none, none, some (.inr (fun v wx => wx.ownsRow w0.heap.size 25 6 v s.past.length (cells6 s.past)))] (by kernel_rfl) (by kernel_rfl) ?_ ?_
  · exact ⟨trivial, trivial, monoOwns _ _ _ _ _, trivial, trivial, monoOwns _ _ _ _ _, trivial, trivial, monoOwns _ _ _ _ _, trivial, trivial, monoOwns _ _ _ _ _, trivial⟩
  iterate 1 (refine wpM_p (fun K hK => ?_); go_simp; first | refine hK _ ?_ | refine ⟨(fun h => by cases h), hK _ ?_⟩; clear hK K)
  refine wpM_q (c) rfl (fun w' hw' => by have q0 := hw'.cell x0; go_simp) ?_
  refine wpM_norm (fun K hK => ?_); go_simp; refine hK _ ?_; clear hK K
  refine wpM_l _ rfl (fun w' hw' hk => ?_) (fun v5 => ?_)
  · have hw2 := e0.trans hw'
    have hle := hw'.size
    clear hk
    unfold makes
    go_simp
    exact ⟨Ext.refl _, (own_ints c s.cells w' (h1.ext hw2) (by have := HS.out.1; omega)).mono fun _ _ _ h => owns_base h hle⟩
  refine wpM_norm (fun K hK => ?_); go_simp; refine hK _ ?_; clear hK K
  iterate 1 (refine wpM_p (fun K hK => ?_); go_simp; first | refine hK _ ?_ | refine ⟨(fun h => by cases h), hK _ ?_⟩; clear hK K)
  refine wpM_q (u) rfl (fun w' hw' => by have q0 := hw'.cell x1; go_simp) ?_
  refine wpM_norm (fun K hK => ?_); go_simp; refine hK _ ?_; clear hK K
  refine wpM_l _ rfl (fun w' hw' hk => ?_) (fun v8 => ?_)
  · have hw2 := e0.trans hw'
    have hle := hw'.size
    clear hk
    unfold makes
    go_simp
    exact ⟨Ext.refl _, (own_writes u s.undo w' (h2.ext hw2) (by have := HS.out.2.1; omega)).mono fun _ _ _ h => owns_base h hle⟩
  refine wpM_norm (fun K hK => ?_); go_simp; refine hK _ ?_; clear hK K
  iterate 1 (refine wpM_p (fun K hK => ?_); go_simp; first | refine hK _ ?_ | refine ⟨(fun h => by cases h), hK _ ?_⟩; clear hK K)
  refine wpM_q (a) rfl (fun w' hw' => by have q0 := hw'.cell x2; go_simp) ?_
  refine wpM_norm (fun K hK => ?_); go_simp; refine hK _ ?_; clear hK K
  refine wpM_l _ rfl (fun w' hw' hk => ?_) (fun v11 => ?_)
  · have hw2 := e0.trans hw'
    have hle := hw'.size
    clear hk
    unfold makes
    go_simp
    exact ⟨Ext.refl _, (own_anss a s.answers w' (h3.ext monoAn hw2) (by have := HS.out.2.2.1; omega)).mono fun _ _ _ h => owns_base h hle⟩
  refine wpM_norm (fun K hK => ?_); go_simp; refine hK _ ?_; clear hK K
  iterate 1 (refine wpM_p (fun K hK => ?_); go_simp; first | refine hK _ ?_ | refine ⟨(fun h => by cases h), hK _ ?_⟩; clear hK K)
  refine wpM_q (p) rfl (fun w' hw' => by have q0 := hw'.cell x3; go_simp) ?_
  refine wpM_norm (fun K hK => ?_); go_simp; refine hK _ ?_; clear hK K
  refine wpM_l _ rfl (fun w' hw' hk => ?_) (fun v14 => ?_)
  · have hw2 := e0.trans hw'
    have hle := hw'.size
    clear hk
    unfold makes
    go_simp
    exact ⟨Ext.refl _, (own_reqs p s.past w' (h4.ext monoRq hw2) (by have := HS.out.2.2.2; omega)).mono fun _ _ _ h => owns_base h hle⟩
  refine wpM_norm (fun K hK => ?_); go_simp; refine hK _ ?_; clear hK K
  refine wpM_nil ?_
  intro w1 e1 hX
  have o0 : w1.ownsRow w0.heap.size 3 1 v5 s.cells.length (s.cells.map I) := hX 5
  have o1 : w1.ownsRow w0.heap.size 50 2 v8 s.undo.length (cells2 s.undo) := hX 8
  have o2 : w1.ownsRow w0.heap.size 30 4 v11 s.answers.length (cellsA s.answers) := hX 11
  have o3 : w1.ownsRow w0.heap.size 25 6 v14 s.past.length (cells6 s.past) := hX 14
  clear hX x0 x1 x2 x3
  have ho : OwnSt w0.heap.size w1 v5 v8 v11 v14 s := ⟨o0, o1, o2, o3⟩
  obtain ⟨ka, kc, hk0⟩ := own_slice o0
  obtain ⟨la, lc, hk1⟩ := own_slice o1
  obtain ⟨ma, mc, hk2⟩ := own_slice o2
  obtain ⟨na, nc, hk3⟩ := own_slice o3
  subst hk0 hk1 hk2 hk3
  clear o0 o1 o2 o3
  have HO := Lib.hid ho
  clear ho
  obtain ⟨-, b1⟩ := HB.out w1 e1
  obtain ⟨y0, y1, y2, y3, f0, f1, f2, f3⟩ := box4 b1
  go_wp2_with fail
  clear y0 y1 y2 y3 f0 f1 f2 f3
  have b2 := set4 b1 (.slice ka s.cells.length kc) (.slice la s.undo.length lc) (.slice ma s.answers.length mc) (.slice na s.past.length nc)
  obtain ⟨q0, q1, q2, q3, -⟩ := box4 b2
  have m2 := ext_set4 (e0.trans e1) (b := w.heap.size + 1) (by omega) (.slice ka s.cells.length kc) (.slice la s.undo.length lc) (.slice ma s.answers.length mc) (.slice na s.past.length nc)
  have hlt : w.heap.size + 1 < w0.heap.size := by rw [HSZ.out]; omega
  refine bodyPost_ret (by simp [results, Try.results27, go_sem, q0, q1, q2, q3]; rfl) rfl ?_
  exact ⟨_, rfl, m2, _, _, _, _, rfl, ((((HO.out.set hlt _ _).set hlt _ _).set hlt _ _).set hlt _ _).low (by rw [HSZ.out]; exact Nat.le_refl _)⟩

end Go.Proofs.Ytdmipnnfoolelac

namespace Go.Proofs.Ytdmipnnfoolelac
open Go.RowKit Go.Mk

def atAn : List An → Int → Nat
  | [], _ => 0
  | x :: l, n => if x.client = n then 0 else atAn l n + 1
def placeOf (l : List An) (n : Int) : Int := if atAn l n < l.length then (atAn l n : Int) else -1

theorem at_hit : ∀ {l : List An} {k : Nat} {x : An} {n : Int}, (∀ (j : Nat) (y : An), j < k → l[j]? = some y → y.client ≠ n) → l[k]? = some x → x.client = n → atAn l n = k
  | [], k, x, n, _, hx, _ => by simp at hx
  | y :: l, 0, x, n, _, hx, hc => by
    simp at hx
    subst hx
    exact if_pos hc
  | y :: l, k + 1, x, n, h, hx, hc => by
    have h0 : ¬ y.client = n := h 0 y (by omega) rfl
    have := at_hit (l := l) (k := k) (x := x) (n := n) (fun j z hj hz => h (j + 1) z (by omega) (by simpa using hz)) (by simpa using hx) hc
    show (if y.client = n then 0 else atAn l n + 1) = _
    rw [if_neg h0, this]
theorem at_none : ∀ {l : List An} {n : Int}, (∀ x ∈ l, x.client ≠ n) → atAn l n = l.length
  | [], _, _ => rfl
  | y :: l, n, h => by
    show (if y.client = n then 0 else atAn l n + 1) = _
    rw [if_neg (h y (by simp)), at_none (fun x hx => h x (by simp [hx]))]
    rfl
theorem place_hit {l : List An} {k : Nat} {x : An} {n : Int} (h : ∀ (j : Nat) (y : An), j < k → l[j]? = some y → y.client ≠ n) (hx : l[k]? = some x) (hc : x.client = n) : placeOf l n = (k : Int) := by
  unfold placeOf
  rw [at_hit h hx hc, if_pos (List.getElem?_eq_some_iff.1 hx).1]
theorem place_none {l : List An} {n : Int} (h : ∀ (j : Nat) (y : An), j < l.length → l[j]? = some y → y.client ≠ n) : placeOf l n = -1 := by
  unfold placeOf
  rw [at_none (fun x hx => by obtain ⟨j, hj⟩ := List.mem_iff_getElem?.1 hx; exact h j x (List.getElem?_eq_some_iff.1 hj).1 hj), if_neg (Nat.lt_irrefl _)]

theorem place_cases : ∀ (l : List An) (n : Int), (placeOf l n = -1 ∧ lastAn l n = (zeroAn, false) ∧ ∀ a : An, a.client = n → putAn l a = l ++ [a]) ∨ ∃ (k : Nat) (x : An), placeOf l n = (k : Int) ∧ l[k]? = some x ∧ lastAn l n = (x, true) ∧ ∀ a : An, a.client = n → putAn l a = l.set k a
  | [], n => .inl ⟨rfl, rfl, fun _ _ => rfl⟩
  | y :: l, n => by
    by_cases hy : y.client = n
    · right
      refine ⟨0, y, place_hit (fun j z hj => by omega) rfl hy, rfl, if_pos hy, fun a ha => ?_⟩
      show (if y.client = a.client then a :: l else y :: putAn l a) = _
      rw [if_pos (hy.trans ha.symm)]
      rfl
    · have hl : lastAn (y :: l) n = lastAn l n := if_neg hy
      have hp : ∀ a : An, a.client = n → putAn (y :: l) a = y :: putAn l a := fun a ha => if_neg (fun e => hy (e.trans ha))
      have ha : atAn (y :: l) n = atAn l n + 1 := if_neg hy
      rcases place_cases l n with ⟨h1, h2, h3⟩ | ⟨k, x, h1, h2, h3, h4⟩
      · left
        refine ⟨?_, by rw [hl, h2], fun a e => by rw [hp a e, h3 a e]; rfl⟩
        unfold placeOf at h1 ⊢
        rw [ha]
        by_cases hlt : atAn l n < l.length
        · rw [if_pos hlt] at h1; omega
        · rw [if_neg (by simp; omega)]
      · right
        refine ⟨k + 1, x, ?_, by simpa using h2, by rw [hl, h3], fun a e => by rw [hp a e, h4 a e]; rfl⟩
        unfold placeOf at h1 ⊢
        rw [ha]
        by_cases hlt : atAn l n < l.length
        · rw [if_pos hlt] at h1; rw [if_pos (by simp; omega)]; omega
        · rw [if_neg hlt] at h1; omega

set_option maxRecDepth 100000 in
set_option maxHeartbeats 400000 in
theorem placeIs_any (xc xt xe xn n : Int) (b : Nat) (w : World) (hb : w.cell? ⟨b, 0, none⟩ = some (I n)) :
    Calls Try.prog 64 #[.agg #[I xc, I xt, I xe, I xn], .pointer (some ⟨b, 0, none⟩)] w fun e w' => e = .returned (.bool (xc == n)) ∧ Ext w w' := by
  have e0 : Ext w (w.alloc (.cells #[I xc, I xt, I xe, I xn] 30)) := (Ext.refl w).alloc _
  have hb2 := e0.cell hb
  clear hb
  go_enter Try.func64, Try.ntmps64
  go_wp2
  go_ret
  exact ⟨rfl, e0⟩

theorem enters_place : ∀ (args : Array Value) (w : World), (callFunc 64 args).run Try.prog w = .ok (.enter 64 args) w := fun _ _ => by kernel_rfl

set_option maxRecDepth 100000 in
set_option maxHeartbeats 1000000 in
theorem indexFunc_any (a : Value) (l : List An) (n : Int) (b : Nat) (w : World) (ha : RowOf 4 elAn w a l) (hb : w.cell? ⟨b, 0, none⟩ = some (I n)) :
    Calls Try.prog 63 #[a, .func (.func 64) #[] #[.pointer (some ⟨b, 0, none⟩)]] w fun e w' => e = .returned (I (placeOf l n)) ∧ Ext w w' := by
  obtain ⟨aa, ac, rfl, g1, g2, g3⟩ := ans_form ha
  unfold maxLen at g2
  clear ha
  obtain ⟨R, hR⟩ : ∃ R, placeOf l n = R := ⟨_, rfl⟩
  rw [hR]
  have HR := Lib.hid hR
  clear hR
  have HG := Lib.hid g3
  clear g3
  have hE := enters_place
  go_enter Try.func63, Try.ntmps63
  go_wp2
  go_loopw [8] (fun i wr => ∃ k : Nat, k ≤ l.length ∧ i = I k ∧ (∀ (j : Nat) (y : An), j < k → l[j]? = some y → y.client ≠ n) ∧ Ext w wr) (fun i _ => l.length - (intOf i).toNat)
  case atStart => exact ⟨0, by omega, rfl, fun j y hj => by omega, Ext.refl _⟩
  case round =>
    obtain ⟨k, hk, rfl, hne, he⟩ := hrel
    have HNE := Lib.hid hne
    clear hne
    by_cases hlt : k < l.length
    · obtain ⟨x, hx⟩ : ∃ x, l[k]? = some x := ⟨l[k], List.getElem?_eq_getElem hlt⟩
      obtain ⟨b2, off, rfl, c0, c1, c2, c3⟩ := HG.out k x hx
      have HX := Lib.hid hx
      clear hx
      replace c0 := he.cell c0
      replace c1 := he.cell c1
      replace c2 := he.cell c2
      replace c3 := he.cell c3
      obtain ⟨xc, xt, ⟨xe, xn⟩⟩ := x
      go_wp2_with fail
      clear c0 c1 c2 c3
      refine Calls.exts (placeIs_any xc xt xe xn n b wr (he.cell hb)) (fun w2 e2 => ?_)
      by_cases hc : xc = n
      · have hbt : (xc == n) = true := by simpa using hc
        have HC := Lib.hid hc
        clear hc
        go_wp2
        go_ret
        refine ⟨?_, he.trans e2⟩
        rw [← HR.out, place_hit HNE.out HX.out HC.out]
        rfl
      · have hbt : (xc == n) = false := by simpa using hc
        have HC := Lib.hid hc
        clear hc
        go_wp2
        go_roundw
        case rel =>
          refine ⟨k + 1, by omega, by go_num, fun j y hj hy => ?_, he.trans e2⟩
          by_cases hjk : j = k
          · subst hjk
            have hy2 : l[j]? = some y := hy
            rw [HX.out] at hy2
            cases hy2
            exact HC.out
          · exact HNE.out j y (by omega) hy
        case measure => simp [intOf]; omega
    · have hkl : k = l.length := by omega
      subst hkl
      go_wp2
      go_ret
      refine ⟨?_, he⟩
      rw [← HR.out, place_none HNE.out]
      rfl

set_option maxRecDepth 100000 in
set_option maxHeartbeats 400000 in
theorem place_any (a : Value) (l : List An) (n : Int) (w : World) (ha : RowOf 4 elAn w a l) :
    Calls Try.prog 50 #[a, I n] w fun e w' => e = .returned (I (placeOf l n)) ∧ Ext w w' := by
  have e0 : Ext w (w.alloc (.cells #[I n] 3)) := (Ext.refl w).alloc _
  have hmf := func_mk
  go_enter Try.func50, Try.ntmps50
  go_wp2_with fail
  refine Calls.exts (indexFunc_any a l n w.heap.size _ (ha.ext monoAn e0) (by simp)) (fun w2 e2 => ?_)
  go_wp2
  go_ret
  exact ⟨rfl, e0.trans e2⟩

set_option maxRecDepth 100000 in
set_option maxHeartbeats 1000000 in
theorem Last_any (c u a p : Value) (s : St) (n : Int) (w : World) (h : elSt w [c, u, a, p] s) :
    Calls Try.prog 25 #[.agg #[c, u, a, p], I n] w fun e w' => e = .returned (.tuple #[AN (lastAn s.answers n).1, .bool (lastAn s.answers n).2]) ∧ Ext w w' := by
  obtain ⟨h1, h2, h3, h4⟩ := st_iff.1 h
  clear h h1 h2 h4
  obtain ⟨aa, ac, rfl, g1, g2, g3⟩ := ans_form h3
  unfold maxLen at g2
  generalize hl : s.answers = l at *
  clear hl
  have e0 : Ext w ((w.alloc (.cells #[c, u, .slice aa l.length ac, p] 48)).alloc (.cells #[I 0, I 0, I 0, I 0] 30)) := ((Ext.refl w).alloc _).alloc _
  have HB := Lib.hid (fun wx (h : Ext ((w.alloc (.cells #[c, u, .slice aa l.length ac, p] 48)).alloc (.cells #[I 0, I 0, I 0, I 0] 30)) wx) => And.intro (first_block h) (second_block h))
  rcases place_cases l n with ⟨p1, p2, -⟩ | ⟨k, x, p1, p2, p3, -⟩
  · rw [p2]
    clear p2 g3
    go_enter Try.func25, Try.ntmps25
    go_wp2_with fail
    generalize hw0 : (w.alloc (.cells #[c, u, .slice aa l.length ac, p] 48)).alloc (.cells #[I 0, I 0, I 0, I 0] 30) = w0 at *
    clear hw0
    refine Calls.exts (place_any _ l n w0 (h3.ext monoAn e0)) (fun w1 e1 => ?_)
    rw [p1]
    obtain ⟨b0, b1⟩ := HB.out w1 e1
    obtain ⟨y0, y1, y2, y3, f0, f1, f2, f3⟩ := box4 b1
    go_wp2
    clear y0 y1 y2 y3 f0 f1 f2 f3
    have b2 := set4 b1 (I 0) (I 0) (I 0) (I 0)
    obtain ⟨q0, q1, q2, q3, -⟩ := box4 b2
    refine bodyPost_ret (by simp [results, Try.results25, go_sem, q0, q1, q2, q3]; rfl) rfl ?_
    exact ⟨rfl, ext_set4 (e0.trans e1) (b := w.heap.size + 1) (by omega) _ _ _ _⟩
  · rw [p3]
    clear p3
    obtain ⟨b, off, rfl, c0, c1, c2, c3⟩ := g3 k x p2
    have hkl := (List.getElem?_eq_some_iff.1 p2).1
    clear g3 p2
    obtain ⟨xc, xt, ⟨xe, xn⟩⟩ := x
    go_enter Try.func25, Try.ntmps25
    go_wp2_with fail
    generalize hw0 : (w.alloc (.cells #[c, u, .slice (some ⟨b, off, none⟩) l.length ac, p] 48)).alloc (.cells #[I 0, I 0, I 0, I 0] 30) = w0 at *
    clear hw0
    refine Calls.exts (place_any _ l n w0 (h3.ext monoAn e0)) (fun w1 e1 => ?_)
    rw [p1]
    clear p1
    have ew := e0.trans e1
    replace c0 := ew.cell c0
    replace c1 := ew.cell c1
    replace c2 := ew.cell c2
    replace c3 := ew.cell c3
    obtain ⟨b0, b1⟩ := HB.out w1 e1
    obtain ⟨x0, x1, x2, x3, -⟩ := box4 b0
    obtain ⟨y0, y1, y2, y3, f0, f1, f2, f3⟩ := box4 b1
    go_wp2
    clear y0 y1 y2 y3 f0 f1 f2 f3 x0 x1 x2 x3 c0 c1 c2 c3
    have b2 := set4 b1 (I xc) (I xt) (I xe) (I xn)
    obtain ⟨q0, q1, q2, q3, -⟩ := box4 b2
    refine bodyPost_ret (by simp [results, Try.results25, go_sem, q0, q1, q2, q3]; rfl) rfl ?_
    exact ⟨rfl, ext_set4 ew (b := w.heap.size + 1) (by omega) _ _ _ _⟩

theorem cellsA_set (l : List An) (k : Nat) (x : An) : cellsA (l.set k x) = ((((cellsA l).set (k * 4) (I x.client)).set (k * 4 + 1) (I x.token)).set (k * 4 + 2) (I x.reply.err)).set (k * 4 + 3) (I x.reply.n) := by
  induction l generalizing k with
  | nil => simp [cellsA]
  | cons q l ih =>
    cases k with
    | zero => rfl
    | succ k =>
      rw [show (k + 1) * 4 = k * 4 + 4 by omega, show k * 4 + 4 + 1 = k * 4 + 1 + 4 by omega, show k * 4 + 4 + 2 = k * 4 + 2 + 4 by omega, show k * 4 + 4 + 3 = k * 4 + 3 + 4 by omega]
      show I q.client :: I q.token :: I q.reply.err :: I q.reply.n :: cellsA (l.set k x) = _
      rw [ih]
      rfl

set_option maxRecDepth 100000 in
set_option maxHeartbeats 1000000 in
theorem put_anyS (v : Value) (l : List An) (xc xt xe xn : Int) (base : Nat) (w : World) (ho : w.ownsRow base 30 4 v l.length (cellsA l)) (hr : (l.length + 1) * 32 ≤ 140737488355328) (hbase : base ≤ w.heap.size) :
    Calls Try.prog 58 #[v, .agg #[I xc, I xt, I xe, I xn]] w fun e w' => ∃ r, e = .returned r ∧ w'.ownsRow base 30 4 r (putAn l ⟨xc, xt, ⟨xe, xn⟩⟩).length (cellsA (putAn l ⟨xc, xt, ⟨xe, xn⟩⟩)) ∧ w.grownBy w' v.ownBlock := by
  obtain ⟨i0, hi, hz0, hz1, hz2⟩ := info_parts Try.infoAnswer
  have HI := Lib.hid hi
  clear hi
  have e0 : Ext w (w.alloc (.cells #[I xc, I xt, I xe, I xn] 30)) := (Ext.refl w).alloc _
  have HB := Lib.hid (fun wx (h : Ext (w.alloc (.cells #[I xc, I xt, I xe, I xn] 30)) wx) => block_ext h)
  have HO := Lib.hid ho
  have hrd := (rd_anss ho).out
  have HLT := Lib.hid (ho.lt)
  rcases place_cases l xc with ⟨p1, -, p2⟩ | ⟨k, x, p1, p2, -, p3⟩
  · rw [p2 ⟨xc, xt, ⟨xe, xn⟩⟩ rfl]
    clear p2
    obtain ⟨va, vc, rfl⟩ := own_slice ho
    generalize hv : Value.slice va l.length vc = v at *
    clear hv ho
    go_enter Try.func58, Try.ntmps58
    go_wp2_with fail
    refine Calls.exts (place_any v l xc _ (hrd.ext monoAn e0)) (fun w1 e1 => ?_)
    rw [p1]
    have ew := e0.trans e1
    obtain ⟨y0, y1, y2, y3, -⟩ := box4 (HB.out w1 e1)
    go_wp2_with (at_builtin; refine stop_at ?_)
    unfold Hid
    have hlit := anss_lit0 (w := w1) 30 ⟨xc, xt, ⟨xe, xn⟩⟩
    have hle := ew.size
    refine wpList_append_row _ rfl (.tmp 12) (.tmp 14) 45 rfl base 30 i0 (.agg #[.int .i64 0, .int .i64 0, .int .i64 0, .int .i64 0]) 4 32 Try.underlying45 HI.out hz0 hz1 hz2 rfl (by decide) v l.length (cellsA l) rfl (owns_ext HO.out (ew.alloc _)) _ rfl 1 _ hlit (cellsA_one _) (by omega) (by decide) (by simp; omega) ?_
    intro v' w' ho2 hg
    clear hlit y0 y1 y2 y3
    go_wp2
    go_ret
    rw [← cellsA_append] at ho2
    refine ⟨_, rfl, by simpa using ho2, ?_⟩
    exact grown_trans ((ew.alloc _).grownBy _) hg
  · rw [p3 ⟨xc, xt, ⟨xe, xn⟩⟩ rfl]
    have hkl := (List.getElem?_eq_some_iff.1 p2).1
    clear p3 p2
    rcases ho.2 with ⟨rfl, hn⟩ | ⟨g, cap, cur, rfl, hb, hg, hn, hm, hs, ht⟩
    · omega
    clear hg ht hs ho
    unfold maxLen at hm
    go_enter Try.func58, Try.ntmps58
    go_wp2_with fail
    refine Calls.exts (place_any _ l xc _ (hrd.ext monoAn e0)) (fun w1 e1 => ?_)
    rw [p1]
    clear p1
    have ew := e0.trans e1
    have ho1 := owns_ext HO.out ew
    obtain ⟨y0, y1, y2, y3, -⟩ := box4 (HB.out w1 e1)
    have hne : g ≠ w.heap.size := by have := (HLT.out g rfl).2; omega
    have hl4 := length_cellsA l
    have c0 : w1.cell? ⟨g, k * 4, none⟩ = some ((cellsA l)[k * 4]'(by omega)) := by rw [ho1.cellAt _ (by omega)]; exact List.getElem?_eq_getElem _
    have c1 : w1.cell? ⟨g, k * 4 + 1, none⟩ = some ((cellsA l)[k * 4 + 1]'(by omega)) := by rw [ho1.cellAt _ (by omega)]; exact List.getElem?_eq_getElem _
    have c2 : w1.cell? ⟨g, k * 4 + 2, none⟩ = some ((cellsA l)[k * 4 + 2]'(by omega)) := by rw [ho1.cellAt _ (by omega)]; exact List.getElem?_eq_getElem _
    have c3 : w1.cell? ⟨g, k * 4 + 3, none⟩ = some ((cellsA l)[k * 4 + 3]'(by omega)) := by rw [ho1.cellAt _ (by omega)]; exact List.getElem?_eq_getElem _
    generalize (cellsA l)[k * 4]'(by omega) = z0 at c0
    generalize (cellsA l)[k * 4 + 1]'(by omega) = z1 at c1
    generalize (cellsA l)[k * 4 + 2]'(by omega) = z2 at c2
    generalize (cellsA l)[k * 4 + 3]'(by omega) = z3 at c3
    have fz := ho1.frozenAt
    have HO1 := Lib.hid ho1
    clear ho1 hl4
    go_wp2
    clear c0 c1 c2 c3 fz y0 y1 y2 y3
    go_ret
    have s0 := HO1.out.stored (k * 4) (I xc)
    have s1 := s0.1.stored (k * 4 + 1) (I xt)
    have s2 := s1.1.stored (k * 4 + 2) (I xe)
    have s3 := s2.1.stored (k * 4 + 3) (I xn)
    refine ⟨_, rfl, ?_, ?_⟩
    · rw [cellsA_set, List.length_set]
      exact s3.1
    · exact grown_trans (grown_trans (grown_trans (grown_trans (ew.grownBy _) s0.2) s1.2) s2.2) s3.2

set_option maxRecDepth 100000 in
set_option maxHeartbeats 400000 in
theorem newStore_any (w : World) : Keeps Try.prog 23 #[] w (fun _ => False) (fun r w' => Agg elSt newSt r w') := by
  unfold Keeps
  have HB := Lib.hid (fun wx (h : Ext (w.alloc (.cells #[.slice none 0 0, .slice none 0 0, .slice none 0 0, .slice none 0 0] 48)) wx) => block_ext h)
  have e0 : Ext w (w.alloc (.cells #[.slice none 0 0, .slice none 0 0, .slice none 0 0, .slice none 0 0] 48)) := (Ext.refl w).alloc _
  go_enter Try.func23, Try.ntmps23
  go_wp2_with fail
  generalize hw0 : w.alloc (.cells #[.slice none 0 0, .slice none 0 0, .slice none 0 0, .slice none 0 0] 48) = w0 at *
  have hsz : w0.heap.size = w.heap.size + 1 := by rw [← hw0]; simp
  clear hw0
  refine (New_own w0).to fun r w1 e1 ⟨n, ho⟩ => ?_
  obtain ⟨ra, rc, hrs⟩ := own_slice ho
  subst hrs
  have HO := Lib.hid (rd_ints ho)
  clear ho
  have b1 := HB.out w1 e1
  obtain ⟨y0, y1, y2, y3, f0, f1, f2, f3⟩ := box4 b1
  go_wp2
  clear y0 y1 y2 y3 f0 f1 f2 f3
  have b2 := set4 b1 (.slice ra n rc) (.slice none 0 0) (.slice none 0 0) (.slice none 0 0)
  obtain ⟨q0, q1, q2, q3, -⟩ := box4 b2
  refine bodyPost_ret (by simp [results, Try.results23, go_sem, q0, q1, q2, q3]; rfl) rfl ?_
  have n1 : ¬ (w0.heap.size ≤ w.heap.size) := by omega
  refine ⟨_, rfl, ext_set4 (e0.trans e1) (Nat.le_refl _) _ _ _ _, Rd.widen (A := fun k => w0.heap.size ≤ k) (agg_rd (st_rd (s := newSt) ?_ ?_ ?_ ?_)) (fun k _ h => .inr (by omega))⟩
  · exact (((HO.out.set n1 _ _).set n1 _ _).set n1 _ _).set n1 _ _
  · exact Rd.all fun w => writes_nil w
  · exact Rd.all fun w => RowOf.nil w
  · exact Rd.all fun w => RowOf.nil w

end Go.Proofs.Ytdmipnnfoolelac

namespace Go.Proofs.Ytdmipnnfoolelac
open Go.RowKit Go.Mk

theorem owns_set4 {w : World} {base e size n : Nat} {v : Value} {xs : List Value} (h : w.ownsRow base e size v n xs) {b : Nat} (hb : v.ownBlock ≠ some b) (p q r s : Value) : ((((w.setCell ⟨b, 0, none⟩ p).setCell ⟨b, 1, none⟩ q).setCell ⟨b, 2, none⟩ r).setCell ⟨b, 3, none⟩ s).ownsRow base e size v n xs :=
  owns_setCell (owns_setCell (owns_setCell (owns_setCell h hb 0 p) hb 1 q) hb 2 r) hb 3 s
theorem size_set4 (w : World) (b : Nat) (p q r s : Value) : ((((w.setCell ⟨b, 0, none⟩ p).setCell ⟨b, 1, none⟩ q).setCell ⟨b, 2, none⟩ r).setCell ⟨b, 3, none⟩ s).heap.size = w.heap.size := by simp
theorem block_set4 {w : World} {b b' : Nat} {o : Obj} (h : w.heap[b]? = some o) (hne : b ≠ b') (p q r s : Value) : ((((w.setCell ⟨b', 0, none⟩ p).setCell ⟨b', 1, none⟩ q).setCell ⟨b', 2, none⟩ r).setCell ⟨b', 3, none⟩ s).heap[b]? = some o :=
  block_set (block_set (block_set (block_set h hne) hne) hne) hne
theorem fourth_block {w wx : World} {o1 o2 o3 o4 : Obj} (h : Ext ((((w.alloc o1).alloc o2).alloc o3).alloc o4) wx) : wx.heap[w.heap.size]? = some o1 ∧ wx.heap[w.heap.size + 1]? = some o2 ∧ wx.heap[w.heap.size + 1 + 1]? = some o3 ∧ wx.heap[w.heap.size + 1 + 1 + 1]? = some o4 := by
  have h3 : Ext (((w.alloc o1).alloc o2).alloc o3) wx := ((Ext.refl _).alloc o4).trans h
  obtain ⟨a, b, c⟩ := third_block h3
  refine ⟨a, b, c, ?_⟩
  have := block_ext h
  simpa using this
theorem keep_block {w w' : World} {row : Option Nat} (hg : w.grownBy w' row) {b : Nat} {o : Obj} (h : w.heap[b]? = some o) (hne : row ≠ some b) : w'.heap[b]? = some o := by
  rw [hg.block b (Array.getElem?_eq_some_iff.1 h).1 (fun e => hne e.symm)]
  exact h

theorem write_eq (s : St) (p : Int × Int) : writeSt s p = { s with cells := setAll s.cells [p], undo := undoAll s.cells [p] ++ s.undo } := by
  unfold writeSt
  by_cases h : 0 ≤ p.1 ∧ p.1 < (s.cells.length : Int)
  · rw [if_pos h]
    have : undoAll s.cells [p] = [(p.1, s.cells.getD p.1.toNat 0)] := by
      show [] ++ (if 0 ≤ p.1 ∧ p.1 < (s.cells.length : Int) then [(p.1, s.cells.getD p.1.toNat 0)] else []) = _
      rw [if_pos h]
      rfl
    rw [this]
    rfl
  · rw [if_neg h]
    have h1 : undoAll s.cells [p] = [] := by
      show [] ++ (if 0 ≤ p.1 ∧ p.1 < (s.cells.length : Int) then [(p.1, s.cells.getD p.1.toNat 0)] else []) = _
      rw [if_neg h]
      rfl
    have h2 : setAll s.cells [p] = s.cells := if_neg h
    rw [h1, h2]
    rfl

set_option maxRecDepth 100000 in
set_option maxHeartbeats 1000000 in
theorem Back_any (c u a p : Value) (s : St) (w : World) (h : elSt w [c, u, a, p] s) (hs : Small s) :
    Keeps Try.prog 32 #[.agg #[c, u, a, p]] w (fun _ => False) (fun r w' => Agg elSt (backSt s) r w') := by
  unfold Keeps
  have HS := Lib.hid hs
  clear hs
  have HE := Lib.hid h
  clear h
  have e0 : Ext w ((w.alloc (.cells #[c, u, a, p] 48)).alloc (.cells #[.slice none 0 0, .slice none 0 0, .slice none 0 0, .slice none 0 0] 48)) := ((Ext.refl w).alloc _).alloc _
  have HB := Lib.hid (fun wx (h : Ext ((w.alloc (.cells #[c, u, a, p] 48)).alloc (.cells #[.slice none 0 0, .slice none 0 0, .slice none 0 0, .slice none 0 0] 48)) wx) => second_block h)
  have hsz : ((w.alloc (.cells #[c, u, a, p] 48)).alloc (.cells #[.slice none 0 0, .slice none 0 0, .slice none 0 0, .slice none 0 0] 48)).heap.size = w.heap.size + 2 := by simp
  have HSZ := Lib.hid hsz
  clear hsz
  go_enter Try.func32, Try.ntmps32
  go_wp2_with fail
  generalize hw0 : (w.alloc (.cells #[c, u, a, p] 48)).alloc (.cells #[.slice none 0 0, .slice none 0 0, .slice none 0 0, .slice none 0 0] 48) = w0 at *
  clear hw0
  refine (Own_any c u a p s w0 (monoSt _ _ _ _ e0 HE.out) HS.out).to fun r w1 e1 hr => ?_
  obtain ⟨c', u', a', p', rfl, ho⟩ := hr
  obtain ⟨ka, kc, hk0⟩ := own_slice ho.cells
  obtain ⟨la, lc, hk1⟩ := own_slice ho.undo
  obtain ⟨ma, mc, hk2⟩ := own_slice ho.answers
  obtain ⟨na, nc, hk3⟩ := own_slice ho.past
  subst hk0 hk1 hk2 hk3
  have hle := e1.size
  have hz0 := HSZ.out
  obtain ⟨A, hA⟩ : ∃ A : Nat → Prop, ∀ k, A k ↔ (w.heap.size + 2 ≤ k ∧ k ≠ w1.heap.size) := ⟨_, fun _ => Iff.rfl⟩
  have HA := Lib.hid hA
  clear hA
  have k1 := (rd_ints ho.cells).widen (B := A) (fun k hk h => (HA.out k).2 ⟨by omega, by omega⟩)
  have k2 := (rd_writes ho.undo).widen (B := A) (fun k hk h => (HA.out k).2 ⟨by omega, by omega⟩)
  have k3 := (rd_anss ho.answers).widen (B := A) (fun k hk h => (HA.out k).2 ⟨by omega, by omega⟩)
  have k4 := (rd_rqs ho.past).widen (B := A) (fun k hk h => (HA.out k).2 ⟨by omega, by omega⟩)
  clear ho
  have ng : ¬ A w1.heap.size := fun h => ((HA.out _).1 h).2 rfl
  have n1 : ¬ A (w.heap.size + 1) := fun h => by have := ((HA.out _).1 h).1; omega
  have ea := (Ext.refl w1).alloc (.cells #[(.slice ka s.cells.length kc), (.slice la s.undo.length lc), (.slice ma s.answers.length mc), (.slice na s.past.length nc)] 48)
  replace k1 := k1.ext ea
  replace k2 := k2.ext ea
  replace k3 := k3.ext ea
  replace k4 := k4.ext ea
  have b3 := heap_alloc_new w1 (.cells #[(.slice ka s.cells.length kc), (.slice la s.undo.length lc), (.slice ma s.answers.length mc), (.slice na s.past.length nc)] 48)
  have hs2 : (w1.alloc (.cells #[(.slice ka s.cells.length kc), (.slice la s.undo.length lc), (.slice ma s.answers.length mc), (.slice na s.past.length nc)] 48)).heap.size = w1.heap.size + 1 := by simp
  have ew := (e0.trans e1).alloc (.cells #[(.slice ka s.cells.length kc), (.slice la s.undo.length lc), (.slice ma s.answers.length mc), (.slice na s.past.length nc)] 48)
  have b1 := HB.out _ (e1.alloc (.cells #[(.slice ka s.cells.length kc), (.slice la s.undo.length lc), (.slice ma s.answers.length mc), (.slice na s.past.length nc)] 48))
  have K1 := Lib.hid k1
  have K2 := Lib.hid k2
  have K3 := Lib.hid k3
  have K4 := Lib.hid k4
  have B3 := Lib.hid b3
  have B1 := Lib.hid b1
  have HS2 := Lib.hid hs2
  have EW := Lib.hid ew
  have HLE := Lib.hid hle
  have HZ0 := Lib.hid hz0
  clear k1 k2 k3 k4 b3 b1 hs2 ew ea hle hz0
  go_wp2_with fail
  refine (Set_own _ _ s.cells s.undo _ K1.out.out K2.out.out (by have := HS.out.1; omega) (by have := HS.out.2.1; omega)).to fun r w3 e3 ⟨n3, ho3⟩ => ?_
  have hle := HLE.out
  have hz0 := HZ0.out
  have hs2 := HS2.out
  have k5 := (rd_ints ho3).widen (B := A) (fun k hk h => (HA.out k).2 (by simp at h; omega))
  obtain ⟨ra, rc, hrs⟩ := own_slice ho3
  subst hrs
  have d3 := block_of B3.out e3
  have d1 := block_of B1.out e3
  have ew := EW.out.trans e3
  have K5 := Lib.hid k5
  have K6 := Lib.hid (K3.out.ext e3)
  have K7 := Lib.hid (K4.out.ext e3)
  have hn1 : ¬ (w1.heap.size = w.heap.size + 1) := by omega
  have hn2 : ¬ (w.heap.size + 1 = w1.heap.size) := by omega
  clear k5 ho3 hle hz0 hs2 e3 K1 K2 K3 K4
  obtain ⟨x0, x1, x2, x3, f0, f1, f2, f3⟩ := box4 d3
  obtain ⟨y0, y1, y2, y3, g0, g1, g2, g3⟩ := box4 d1
  go_wp2_with fail
  clear x0 x1 x2 x3 f0 f1 f2 f3 y0 y1 y2 y3 g0 g1 g2 g3
  have d2 := set4 (block_set (i := 1) (x := .slice none 0 0) (block_set (i := 0) (x := .slice ra n3 rc) d1 hn2) hn2) (.slice ra n3 rc) (.slice none 0 0) (.slice ma s.answers.length mc) (.slice na s.past.length nc)
  obtain ⟨q0, q1, q2, q3, -⟩ := box4 d2
  have hle := HLE.out
  have hz0 := HZ0.out
  have m2 := ext_set4 ((ew.setCell (p := ⟨w1.heap.size, 0, none⟩) (by show w.heap.size ≤ w1.heap.size; omega) (.slice ra n3 rc)).setCell (p := ⟨w1.heap.size, 1, none⟩) (by show w.heap.size ≤ w1.heap.size; omega) (.slice none 0 0)) (b := w.heap.size + 1) (by omega) (.slice ra n3 rc) (.slice none 0 0) (.slice ma s.answers.length mc) (.slice na s.past.length nc)
  refine bodyPost_ret (by simp [results, Try.results32, go_sem, q0, q1, q2, q3]; rfl) rfl ?_
  refine ⟨_, rfl, m2, Rd.widen (A := A) (agg_rd (st_rd (s := backSt s) ?_ ?_ ?_ ?_)) (fun k _ h => .inr (by have := ((HA.out k).1 h).1; omega))⟩
  · exact ((K5.out.set ng _ _).set ng _ _).set4 n1 _ _ _ _
  · exact Rd.all fun w => writes_nil w
  · exact ((K6.out.set ng _ _).set ng _ _).set4 n1 _ _ _ _
  · exact ((K7.out.set ng _ _).set ng _ _).set4 n1 _ _ _ _

set_option maxRecDepth 100000 in
set_option maxHeartbeats 2000000 in
theorem Write_any (c u a p : Value) (s : St) (x y : Int) (w : World) (h : elSt w [c, u, a, p] s) (hs : Small s) :
    Keeps Try.prog 28 #[.agg #[c, u, a, p], .agg #[I x, I y]] w (fun _ => False) (fun r w' => Agg elSt (writeSt s (x, y)) r w') := by
  rw [write_eq]
  unfold Keeps
  have HS := Lib.hid hs
  clear hs
  have HE := Lib.hid h
  clear h
  obtain ⟨i0, hi, hz0, hz1, hz2⟩ := info_parts Try.infoWrite
  have HI := Lib.hid hi
  clear hi
  have e0 : Ext w (((w.alloc (.cells #[c, u, a, p] 48)).alloc (.cells #[I x, I y] 50)).alloc (.cells #[.slice none 0 0, .slice none 0 0, .slice none 0 0, .slice none 0 0] 48)) := (((Ext.refl w).alloc _).alloc _).alloc _
  have HB := Lib.hid (fun wx (h : Ext (((w.alloc (.cells #[c, u, a, p] 48)).alloc (.cells #[I x, I y] 50)).alloc (.cells #[.slice none 0 0, .slice none 0 0, .slice none 0 0, .slice none 0 0] 48)) wx) => (third_block h).2)
  have hsz : (((w.alloc (.cells #[c, u, a, p] 48)).alloc (.cells #[I x, I y] 50)).alloc (.cells #[.slice none 0 0, .slice none 0 0, .slice none 0 0, .slice none 0 0] 48)).heap.size = w.heap.size + 3 := by simp
  have HSZ := Lib.hid hsz
  clear hsz
  go_enter Try.func28, Try.ntmps28
  go_wp2_with fail
  generalize hw0 : ((w.alloc (.cells #[c, u, a, p] 48)).alloc (.cells #[I x, I y] 50)).alloc (.cells #[.slice none 0 0, .slice none 0 0, .slice none 0 0, .slice none 0 0] 48) = w0 at *
  clear hw0
  refine (Own_any c u a p s w0 (monoSt _ _ _ _ e0 HE.out) HS.out).to fun r w1 e1 hr => ?_
  obtain ⟨c', u', a', p', rfl, ho⟩ := hr
  obtain ⟨ka, kc, hk0⟩ := own_slice ho.cells
  obtain ⟨la, lc, hk1⟩ := own_slice ho.undo
  obtain ⟨ma, mc, hk2⟩ := own_slice ho.answers
  obtain ⟨na, nc, hk3⟩ := own_slice ho.past
  subst hk0 hk1 hk2 hk3
  have hle := e1.size
  have hz0' := HSZ.out
  obtain ⟨A, hA⟩ : ∃ A : Nat → Prop, ∀ k, A k ↔ (w.heap.size + 3 ≤ k ∧ k ≠ w1.heap.size) := ⟨_, fun _ => Iff.rfl⟩
  have HA := Lib.hid hA
  clear hA
  have k1 := (rd_ints ho.cells).widen (B := A) (fun k hk h => (HA.out k).2 ⟨by omega, by omega⟩)
  have k2 := (rd_writes ho.undo).widen (B := A) (fun k hk h => (HA.out k).2 ⟨by omega, by omega⟩)
  have k3 := (rd_anss ho.answers).widen (B := A) (fun k hk h => (HA.out k).2 ⟨by omega, by omega⟩)
  have k4 := (rd_rqs ho.past).widen (B := A) (fun k hk h => (HA.out k).2 ⟨by omega, by omega⟩)
  clear ho
  have ng : ¬ A w1.heap.size := fun h => ((HA.out _).1 h).2 rfl
  have n1 : ¬ A (w.heap.size + 1 + 1) := fun h => by have := ((HA.out _).1 h).1; omega
  have ea := ((Ext.refl w1).alloc (.cells #[(.slice ka s.cells.length kc), (.slice la s.undo.length lc), (.slice ma s.answers.length mc), (.slice na s.past.length nc)] 48)).alloc (.cells #[I x, I y] 50)
  replace k1 := k1.ext ea
  replace k2 := k2.ext ea
  replace k3 := k3.ext ea
  replace k4 := k4.ext ea
  have b3 := block_of (heap_alloc_new w1 (.cells #[(.slice ka s.cells.length kc), (.slice la s.undo.length lc), (.slice ma s.answers.length mc), (.slice na s.past.length nc)] 48)) ((Ext.refl _).alloc (.cells #[I x, I y] 50))
  have hs3 : ((w1.alloc (.cells #[(.slice ka s.cells.length kc), (.slice la s.undo.length lc), (.slice ma s.answers.length mc), (.slice na s.past.length nc)] 48)).alloc (.cells #[I x, I y] 50)).heap.size = w1.heap.size + 2 := by simp
  have ew := ((e0.trans e1).alloc (.cells #[(.slice ka s.cells.length kc), (.slice la s.undo.length lc), (.slice ma s.answers.length mc), (.slice na s.past.length nc)] 48)).alloc (.cells #[I x, I y] 50)
  have b2 := (HB.out _ ((e1.alloc (.cells #[(.slice ka s.cells.length kc), (.slice la s.undo.length lc), (.slice ma s.answers.length mc), (.slice na s.past.length nc)] 48)).alloc (.cells #[I x, I y] 50))).2
  have b1' := (HB.out _ (e1.alloc (.cells #[(.slice ka s.cells.length kc), (.slice la s.undo.length lc), (.slice ma s.answers.length mc), (.slice na s.past.length nc)] 48))).1
  have hlit := World.ownsRow_lit (base := w1.heap.size + 1) (e := 50) (size := 2) (w1.alloc (.cells #[(.slice ka s.cells.length kc), (.slice la s.undo.length lc), (.slice ma s.answers.length mc), (.slice na s.past.length nc)] 48)) #[I x, I y] 1 (by simp) (by decide) rfl
  rw [show (w1.alloc (.cells #[(.slice ka s.cells.length kc), (.slice la s.undo.length lc), (.slice ma s.answers.length mc), (.slice na s.past.length nc)] 48)).heap.size = w1.heap.size + 1 by simp] at hlit
  have k5 : Rd A (fun w => Writes w (.slice (some ⟨w1.heap.size + 1, 0, none⟩) 1 1) [(x, y)]) ((w1.alloc (.cells #[(.slice ka s.cells.length kc), (.slice la s.undo.length lc), (.slice ma s.answers.length mc), (.slice na s.past.length nc)] 48)).alloc (.cells #[I x, I y] 50)) := (rd_writes (l := [(x, y)]) hlit).widen (fun k hk h => (HA.out k).2 (by omega))
  obtain ⟨y0, y1, -⟩ := box2 b1'
  have K1 := Lib.hid k1
  have K2 := Lib.hid k2
  have K3 := Lib.hid k3
  have K4 := Lib.hid k4
  have K5 := Lib.hid k5
  have B3 := Lib.hid b3
  have B2 := Lib.hid b2
  have HS3 := Lib.hid hs3
  have EW := Lib.hid ew
  have HLE := Lib.hid hle
  have HZ0 := Lib.hid hz0'
  clear k1 k2 k3 k4 k5 b3 b2 hs3 ew ea hle hz0' hlit b1'
  go_wp2_with fail
  clear y0 y1
  generalize hw3 : (w1.alloc (.cells #[(.slice ka s.cells.length kc), (.slice la s.undo.length lc), (.slice ma s.answers.length mc), (.slice na s.past.length nc)] 48)).alloc (.cells #[I x, I y] 50) = w3 at *
  clear hw3
  obtain ⟨x0, x1, -⟩ := box4 B3.out
  refine wp_region_mono_weak 6 [none, none, none, some (.inr fun v wx => ∃ n, wx.ownsRow w3.heap.size 50 2 v n (cells2 (undoAll s.cells [(x, y)]))), none, none] (fun v wx => ∃ n, wx.ownsRow w3.heap.size 50 2 v n (cells2 (undoAll s.cells [(x, y)] ++ s.undo))) (by kernel_rfl) (by kernel_rfl) (by kernel_rfl) ?_ (fun v _ _ he ⟨n, h⟩ => ⟨n, owns_ext h he⟩) ?_
  · exact ⟨trivial, trivial, trivial, (fun v _ _ he ⟨n, h⟩ => ⟨n, owns_ext h he⟩), trivial, trivial, trivial⟩
  iterate 1 (refine wpM_p (fun K hK => ?_); go_simp; first | refine hK _ ?_ | refine ⟨(fun h => by cases h), hK _ ?_⟩; clear hK K)
  refine wpM_q ((.slice ka s.cells.length kc)) rfl (fun w' hw' => by have q0 := hw'.cell x0; go_simp) ?_
  refine wpM_norm (fun K hK => ?_); go_simp; refine hK _ ?_; clear hK K
  iterate 1 (refine wpM_p (fun K hK => ?_); go_simp; first | refine hK _ ?_ | refine ⟨(fun h => by cases h), hK _ ?_⟩; clear hK K)
  refine wpM_l _ rfl (fun w' hw' hk => ?_) (fun v14 => ?_)
  · have hle := hw'.size
    clear hk
    unfold makes
    go_simp
    exact ⟨Ext.refl _, (Undo_own _ _ s.cells [(x, y)] w' (K1.out.out.ext hw') (K5.out.out.ext hw') (by have := HS.out.1; omega) (by simp)).mono fun _ _ _ ⟨n, h⟩ => ⟨n, owns_base h hle⟩⟩
  refine wpM_norm (fun K hK => ?_); go_simp; refine hK _ ?_; clear hK K
  iterate 1 (refine wpM_p (fun K hK => ?_); go_simp; first | refine hK _ ?_ | refine ⟨(fun h => by cases h), hK _ ?_⟩; clear hK K)
  refine wpM_q ((.slice la s.undo.length lc)) rfl (fun w' hw' => by have q0 := hw'.cell x1; go_simp) ?_
  refine wpM_norm (fun K hK => ?_); go_simp; refine hK _ ?_; clear hK K
  refine wpM_nil ⟨_, _, rfl, rfl, rfl, fun w' hw' hk => ?_, fun v17 w4 e4 ho4 => ?_⟩
  · obtain ⟨n14, h14⟩ : ∃ n, w'.ownsRow w3.heap.size 50 2 v14 n (cells2 (undoAll s.cells [(x, y)])) := hk 14 (by decide)
    have hn14 : n14 ≤ 1 := by
      have h1 := h14.1
      have h2 := undoAll_len s.cells [(x, y)]
      rw [length_cells2] at h1
      simp at h2
      omega
    obtain ⟨vv, ww, hrun, hoo, hgg⟩ := run_append_row (P := Try.prog) w' w3.heap.size 44 44 50 i0 _ 2 16 Try.underlying44 HI.out hz0 hz1 hz2 rfl (by decide) v14 _ _ h14 (.slice la s.undo.length lc) s.undo.length _ (K2.out.out.ext hw') (cells2_one _) (by have := HS.out.2.1; omega) (by decide) hw'.size
    exact ⟨vv, ww, run_append_op rfl rfl rfl hrun, hw'.grown hgg (fun j hj => (h14.lt j hj).1), _, by rw [cells2_append]; exact hoo⟩
  obtain ⟨n17, ho4⟩ := ho4
  clear x0 x1
  obtain ⟨va, vc, hvs⟩ := own_slice ho4
  subst hvs
  have hle := HLE.out
  have hz0' := HZ0.out
  have hs3 := HS3.out
  have k6 : Rd A (fun w => Writes w (.slice va n17 vc) (undoAll s.cells [(x, y)] ++ s.undo)) w4 := (rd_writes ho4).widen (fun k hk h => (HA.out k).2 (by omega))
  have d3 := block_of B3.out e4
  have d2 := block_of B2.out e4
  have ew := EW.out.trans e4
  have K1' := Lib.hid ((K1.out.ext e4).set ng 1 (.slice va n17 vc))
  have K3' := Lib.hid ((K3.out.ext e4).set ng 1 (.slice va n17 vc))
  have K4' := Lib.hid ((K4.out.ext e4).set ng 1 (.slice va n17 vc))
  have K5' := Lib.hid ((K5.out.ext e4).set ng 1 (.slice va n17 vc))
  have K6' := Lib.hid (k6.set ng 1 (.slice va n17 vc))
  have hle4 := e4.size
  have HLE4 := Lib.hid hle4
  clear k6 ho4 hle hz0' hs3 K1 K2 K3 K4 K5 hle4
  obtain ⟨x0, x1, x2, x3, f0, f1, f2, f3⟩ := box4 d3
  go_wp2_with fail
  clear x0 x1 x2 x3 f0 f1 f2 f3
  refine (Set_own _ _ s.cells [(x, y)] _ K1'.out.out K5'.out.out (by have := HS.out.1; omega) (by simp)).to fun r w5 e5 ⟨n5, ho5⟩ => ?_
  have hle := HLE.out
  have hz0' := HZ0.out
  have hs3 := HS3.out
  have hle4 := HLE4.out
  have k7 := (rd_ints ho5).widen (B := A) (fun k hk h => (HA.out k).2 (by simp at h; omega))
  obtain ⟨ra, rc, hrs⟩ := own_slice ho5
  subst hrs
  have c3 : (w4.setCell ⟨w1.heap.size, 1, none⟩ (.slice va n17 vc)).heap[w1.heap.size]? = some (.cells #[(.slice ka s.cells.length kc), .slice va n17 vc, (.slice ma s.answers.length mc), (.slice na s.past.length nc)] 48 (0, 0)) := by
    have := heap_setCell_same _ _ 1 _ _ (.slice va n17 vc) d3
    simpa using this
  have c2 := block_set (i := 1) (x := .slice va n17 vc) d2 (show w.heap.size + 1 + 1 ≠ w1.heap.size by omega)
  replace ew := (ew.setCell (p := ⟨w1.heap.size, 1, none⟩) (by show w.heap.size ≤ w1.heap.size; omega) (.slice va n17 vc)).trans e5
  have g3 := block_of c3 e5
  have g2 := block_of c2 e5
  have L3 := Lib.hid (K3'.out.ext e5)
  have L4 := Lib.hid (K4'.out.ext e5)
  have L6 := Lib.hid (K6'.out.ext e5)
  have L7 := Lib.hid k7
  have hn1 : ¬ (w1.heap.size = w.heap.size + 1 + 1) := by omega
  have hn2 : ¬ (w.heap.size + 1 + 1 = w1.heap.size) := by omega
  clear k7 ho5 hle hz0' hs3 hle4 e4 e5 c3 c2 d3 d2 K1' K3' K4' K5' K6'
  obtain ⟨x0, x1, x2, x3, f0, f1, f2, f3⟩ := box4 g3
  obtain ⟨y0, y1, y2, y3, h0, h1, h2, h3⟩ := box4 g2
  go_wp2_with fail
  clear x0 x1 x2 x3 f0 f1 f2 f3 y0 y1 y2 y3 h0 h1 h2 h3
  have d4 := set4 (block_set (i := 0) (x := .slice ra n5 rc) g2 hn2) (.slice ra n5 rc) (.slice va n17 vc) (.slice ma s.answers.length mc) (.slice na s.past.length nc)
  obtain ⟨q0, q1, q2, q3, -⟩ := box4 d4
  have hle := HLE.out
  have hz0' := HZ0.out
  have m2 := ext_set4 (ew.setCell (p := ⟨w1.heap.size, 0, none⟩) (by show w.heap.size ≤ w1.heap.size; omega) (.slice ra n5 rc)) (b := w.heap.size + 1 + 1) (by omega) (.slice ra n5 rc) (.slice va n17 vc) (.slice ma s.answers.length mc) (.slice na s.past.length nc)
  refine bodyPost_ret (by simp [results, Try.results28, go_sem, q0, q1, q2, q3]; rfl) rfl ?_
  refine ⟨_, rfl, m2, Rd.widen (A := A) (agg_rd (st_rd (s := { s with cells := setAll s.cells [(x, y)], undo := undoAll s.cells [(x, y)] ++ s.undo }) ?_ ?_ ?_ ?_)) (fun k _ h => .inr (by have := ((HA.out k).1 h).1; omega))⟩
  · exact (L7.out.set ng _ _).set4 n1 _ _ _ _
  · exact (L6.out.set ng _ _).set4 n1 _ _ _ _
  · exact (L3.out.set ng _ _).set4 n1 _ _ _ _
  · exact (L4.out.set ng _ _).set4 n1 _ _ _ _

end Go.Proofs.Ytdmipnnfoolelac

namespace Go.Proofs.Ytdmipnnfoolelac
open Go.RowKit Go.Mk

theorem rq_lit {w : World} (e : TypeId) (r : Rq) : Row (w.alloc (.cells #[I r.client, I r.token, I r.call.kind, I r.call.name, I r.call.other, I r.call.n] e)) 6 (.slice (some ⟨w.heap.size, 0, none⟩) 1 1) 1 (cells6 [r]) :=
  Row.of_owns (World.ownsRow_lit (base := 0) (e := e) (size := 6) w #[I r.client, I r.token, I r.call.kind, I r.call.name, I r.call.other, I r.call.n] 1 (Nat.zero_le _) (by decide) rfl)

theorem owns_lo {w : World} {base e size n : Nat} {v : Value} {xs : List Value} (h : w.ownsRow base e size v n xs) : ∀ k, v.ownBlock = some k → base ≤ k := fun k hk => (h.lt k hk).1

set_option maxRecDepth 100000 in
set_option maxHeartbeats 2000000 in
theorem Commit_any (c u a p : Value) (s : St) (rc rt rk ra ro rn x n : Int) (w : World) (h : elSt w [c, u, a, p] s) (hs : Small s) :
    Keeps Try.prog 30 #[.agg #[c, u, a, p], .agg #[I rc, I rt, I rk, I ra, I ro, I rn], .agg #[I x, I n]] w (fun _ => False) (fun r w' => Agg elSt (commitSt s ⟨rc, rt, ⟨rk, ra, ro, rn⟩⟩ ⟨x, n⟩) r w') := by
  unfold Keeps
  have HS := Lib.hid hs
  clear hs
  have HE := Lib.hid h
  clear h
  obtain ⟨i0, hi, hz0, hz1, hz2⟩ := info_parts Try.infoRequest
  have HI := Lib.hid hi
  clear hi
  have e0 : Ext w ((((w.alloc (.cells #[c, u, a, p] 48)).alloc (.cells #[I rc, I rt, I rk, I ra, I ro, I rn] 25)).alloc (.cells #[I x, I n] 28)).alloc (.cells #[.slice none 0 0, .slice none 0 0, .slice none 0 0, .slice none 0 0] 48)) := ((((Ext.refl w).alloc _).alloc _).alloc _).alloc _
  have HB := Lib.hid (fun wx (h : Ext ((((w.alloc (.cells #[c, u, a, p] 48)).alloc (.cells #[I rc, I rt, I rk, I ra, I ro, I rn] 25)).alloc (.cells #[I x, I n] 28)).alloc (.cells #[.slice none 0 0, .slice none 0 0, .slice none 0 0, .slice none 0 0] 48)) wx) => (fourth_block h).2)
  have hsz : ((((w.alloc (.cells #[c, u, a, p] 48)).alloc (.cells #[I rc, I rt, I rk, I ra, I ro, I rn] 25)).alloc (.cells #[I x, I n] 28)).alloc (.cells #[.slice none 0 0, .slice none 0 0, .slice none 0 0, .slice none 0 0] 48)).heap.size = w.heap.size + 4 := by simp
  have HSZ := Lib.hid hsz
  clear hsz
  go_enter Try.func30, Try.ntmps30
  go_wp2_with fail
  generalize hw0 : (((w.alloc (.cells #[c, u, a, p] 48)).alloc (.cells #[I rc, I rt, I rk, I ra, I ro, I rn] 25)).alloc (.cells #[I x, I n] 28)).alloc (.cells #[.slice none 0 0, .slice none 0 0, .slice none 0 0, .slice none 0 0] 48) = w0 at *
  clear hw0
  refine (Own_any c u a p s w0 (monoSt _ _ _ _ e0 HE.out) HS.out).to fun r w1 e1 hr => ?_
  obtain ⟨c', u', a', p', rfl, ho⟩ := hr
  obtain ⟨ka, kc, hk0⟩ := own_slice ho.cells
  obtain ⟨la, lc, hk1⟩ := own_slice ho.undo
  obtain ⟨ma, mc, hk2⟩ := own_slice ho.answers
  obtain ⟨na, nc, hk3⟩ := own_slice ho.past
  subst hk0 hk1 hk2 hk3
  have hle := e1.size
  have hz0' := HSZ.out
  have HLE := Lib.hid hle
  have HZ0 := Lib.hid hz0'
  have HO := Lib.hid (ho.low (Nat.le_add_right w0.heap.size 2))
  clear ho
  have hng : ∀ {e size m : Nat} {v : Value} {xs : List Value}, w1.ownsRow (w0.heap.size) e size v m xs → v.ownBlock ≠ some w1.heap.size := fun h e => by have := (h.lt _ e).2; omega
  have HNG := Lib.hid (And.intro (hng HO.out.cells) (And.intro (hng HO.out.answers) (hng HO.out.past)))
  clear hng
  obtain ⟨t1, t2, t3⟩ := HB.out _ (e1.alloc (.cells #[(.slice ka s.cells.length kc), (.slice la s.undo.length lc), (.slice ma s.answers.length mc), (.slice na s.past.length nc)] 48))
  have T1 := Lib.hid t1
  have T2 := Lib.hid t2
  have T3 := Lib.hid t3
  have B3 := Lib.hid (heap_alloc_new w1 (.cells #[(.slice ka s.cells.length kc), (.slice none 0 0), (.slice ma s.answers.length mc), (.slice na s.past.length nc)] 48))
  have hn1 : ¬ (w1.heap.size = w.heap.size + 1) := by omega
  have hn1' : ¬ (w.heap.size + 1 = w1.heap.size) := by omega
  have hn2 : ¬ (w1.heap.size = w.heap.size + 1 + 1) := by omega
  have hn2' : ¬ (w.heap.size + 1 + 1 = w1.heap.size) := by omega
  obtain ⟨t1, t2, t3⟩ := HB.out _ (e1.alloc (.cells #[(.slice ka s.cells.length kc), (.slice none 0 0), (.slice ma s.answers.length mc), (.slice na s.past.length nc)] 48))
  have T1 := Lib.hid t1
  have T2 := Lib.hid t2
  have T3 := Lib.hid t3
  clear hle hz0'
  obtain ⟨⟨r0, r1, r2, r3, r4, r5⟩, -⟩ := box6 T1.out
  clear t1 t2 t3
  go_wp2_with (at_builtin; refine stop_at ?_)
  unfold Hid
  clear r0 r1 r2 r3 r4 r5
  have hlit := rq_lit (w := w1.alloc (.cells #[(.slice ka s.cells.length kc), (.slice none 0 0), (.slice ma s.answers.length mc), (.slice na s.past.length nc)] 48)) 25 ⟨rc, rt, ⟨rk, ra, ro, rn⟩⟩
  rw [show (w1.alloc (.cells #[(.slice ka s.cells.length kc), (.slice none 0 0), (.slice ma s.answers.length mc), (.slice na s.past.length nc)] 48)).heap.size = w1.heap.size + 1 by simp] at hlit
  have ea := ((Ext.refl w1).alloc (.cells #[(.slice ka s.cells.length kc), (.slice none 0 0), (.slice ma s.answers.length mc), (.slice na s.past.length nc)] 48)).alloc (.cells #[I rc, I rt, I rk, I ra, I ro, I rn] 25)
  have hsA : ((w1.alloc (.cells #[(.slice ka s.cells.length kc), (.slice none 0 0), (.slice ma s.answers.length mc), (.slice na s.past.length nc)] 48)).alloc (.cells #[I rc, I rt, I rk, I ra, I ro, I rn] 25)).heap.size = w1.heap.size + 2 := by simp
  have bA := block_of B3.out ((Ext.refl _).alloc (.cells #[I rc, I rt, I rk, I ra, I ro, I rn] 25))
  have uA := block_of T1.out ((Ext.refl _).alloc (.cells #[I rc, I rt, I rk, I ra, I ro, I rn] 25))
  have vA := block_of T2.out ((Ext.refl _).alloc (.cells #[I rc, I rt, I rk, I ra, I ro, I rn] 25))
  have zA := block_of T3.out ((Ext.refl _).alloc (.cells #[I rc, I rt, I rk, I ra, I ro, I rn] 25))
  refine wpList_append_row _ rfl (.tmp 12) (.tmp 14) 46 rfl (w0.heap.size) 25 i0 (.agg #[.int .i64 0, .int .i64 0, .int .i64 0, .int .i64 0, .int .i64 0, .int .i64 0]) 6 48 Try.underlying46 HI.out hz0 hz1 hz2 rfl (by decide) (.slice na s.past.length nc) s.past.length (cells6 s.past) rfl (owns_ext HO.out.past ea) _ rfl 1 _ hlit (cells6_one _) (by have := HS.out.2.2.2; omega) (by decide) (by have := HLE.out; rw [hsA]; omega) ?_
  intro v15 w2 ho2 hg2
  rw [← cells6_append] at ho2
  clear hlit
  have hP := HNG.out.2.2
  have hPs := owns_lo HO.out.past
  have hz0' := HZ0.out
  have oc := (owns_ext HO.out.cells ea).kept hg2 (own_types (owns_ext HO.out.cells ea) (owns_ext HO.out.past ea) (by decide))
  have oa := (owns_ext HO.out.answers ea).kept hg2 (own_types (owns_ext HO.out.answers ea) (owns_ext HO.out.past ea) (by decide))
  have b2 := keep_block hg2 bA hP
  have u2 := keep_block hg2 uA (fun e => by have := hPs _ e; omega)
  have v2 := keep_block hg2 vA (fun e => by have := hPs _ e; omega)
  have z2 := keep_block hg2 zA (fun e => by have := hPs _ e; omega)
  have ew : Ext w w2 := ((e0.trans e1).trans ea).grown hg2 (fun k e => by have := hPs _ e; omega)
  have hle2 := hg2.size
  rw [hsA] at hle2
  clear bA uA vA zA ea hsA hg2 hP hPs hz0'
  have hnv : v15.ownBlock ≠ some w1.heap.size := own_ne ho2 b2 (by decide)
  obtain ⟨va, vc, hvs⟩ := own_slice ho2
  subst hvs
  have OC := Lib.hid (owns_setCell oc HNG.out.1 3 (.slice va (s.past.length + 1) vc))
  have OA := Lib.hid (owns_setCell oa HNG.out.2.1 3 (.slice va (s.past.length + 1) vc))
  have OP := Lib.hid (owns_setCell ho2 hnv 3 (.slice va (s.past.length + 1) vc))
  have hz0' := HZ0.out
  have EW := Lib.hid (ew.setCell (p := ⟨w1.heap.size, 3, none⟩) (by have := HLE.out; show w.heap.size ≤ w1.heap.size; omega) (.slice va (s.past.length + 1) vc))
  have BB : Hid ((w2.setCell ⟨w1.heap.size, 3, none⟩ (.slice va (s.past.length + 1) vc)).heap[w1.heap.size]? = some (.cells #[(.slice ka s.cells.length kc), (.slice none 0 0), (.slice ma s.answers.length mc), .slice va (s.past.length + 1) vc] 48 (0, 0))) := by
    have := heap_setCell_same _ _ 3 _ _ (.slice va (s.past.length + 1) vc) b2
    unfold Hid
    simpa using this
  have ZZ := Lib.hid (block_set (i := 3) (x := .slice va (s.past.length + 1) vc) z2 (show w.heap.size + 1 + 1 + 1 ≠ w1.heap.size by have := HLE.out; omega))
  have HLE2 := Lib.hid hle2
  obtain ⟨⟨r0, r1, r2, r3, r4, r5⟩, -⟩ := box6 u2
  obtain ⟨s0, s1, -⟩ := box2 v2
  obtain ⟨x0, x1, x2, x3, f0, f1, f2, f3⟩ := box4 b2
  clear oc oa ho2 b2 u2 v2 z2 ew hle2 hz0' hnv
  go_wp2_with fail
  clear r0 r1 r2 r3 r4 r5 s0 s1 x0 x1 x2 x3 f0 f1 f2 f3
  have hbase : w0.heap.size ≤ (w2.setCell ⟨w1.heap.size, 3, none⟩ (.slice va (s.past.length + 1) vc)).heap.size := by
    have h1 := HLE.out
    have h2 := HLE2.out
    simp
    omega
  generalize hw3 : w2.setCell ⟨w1.heap.size, 3, none⟩ (.slice va (s.past.length + 1) vc) = w3 at *
  clear hw3
  refine (put_anyS (.slice ma s.answers.length mc) s.answers rc rt x n (w0.heap.size) w3 OA.out (by have := HS.out.2.2.1; omega) hbase).mono ?_
  rintro e w4 ⟨r25, rfl, ho4, hg4⟩
  have hPs := owns_lo OA.out
  have hz0' := HZ0.out
  have oc := OC.out.kept hg4 (own_types OC.out OA.out (by decide))
  have op := OP.out.kept hg4 (own_types OP.out OA.out (by decide))
  have b4 := keep_block hg4 BB.out HNG.out.2.1
  have z4 := keep_block hg4 ZZ.out (fun e => by have := hPs _ e; omega)
  have ew : Ext w w4 := EW.out.grown hg4 (fun k e => by have := hPs _ e; omega)
  have hnr : r25.ownBlock ≠ some w1.heap.size := own_ne ho4 b4 (by decide)
  have hnp : (Value.slice va (s.past.length + 1) vc).ownBlock ≠ some w1.heap.size := own_ne op b4 (by decide)
  obtain ⟨qa, qc, hqs⟩ := own_slice ho4
  subst hqs
  generalize hM : (putAn s.answers ⟨rc, rt, ⟨x, n⟩⟩).length = M at *
  have OC2 := Lib.hid (owns_setCell oc HNG.out.1 2 (.slice qa M qc))
  have OA2 := Lib.hid (owns_setCell ho4 hnr 2 (.slice qa M qc))
  have OP2 := Lib.hid (owns_setCell op hnp 2 (.slice qa M qc))
  have hn3 : ¬ (w1.heap.size = w.heap.size + 1 + 1 + 1) := by have := HLE.out; omega
  have hn3' : ¬ (w.heap.size + 1 + 1 + 1 = w1.heap.size) := by have := HLE.out; omega
  have EW4 := Lib.hid ew
  clear oc op ho4 hg4 hPs hz0' hnr hnp ew hbase OC OA OP
  obtain ⟨x0, x1, x2, x3, f0, f1, f2, f3⟩ := box4 b4
  obtain ⟨y0, y1, y2, y3, g0, g1, g2, g3⟩ := box4 z4
  go_wp2_with fail
  clear x0 x1 x2 x3 f0 f1 f2 f3 y0 y1 y2 y3 g0 g1 g2 g3
  have d4 := set4 (block_set (i := 2) (x := .slice qa M qc) z4 hn3') (.slice ka s.cells.length kc) (.slice none 0 0) (.slice qa M qc) (.slice va (s.past.length + 1) vc)
  obtain ⟨q0, q1, q2, q3, -⟩ := box4 d4
  have hle := HLE.out
  have hz0' := HZ0.out
  have m2 := ext_set4 (EW4.out.setCell (p := ⟨w1.heap.size, 2, none⟩) (by show w.heap.size ≤ w1.heap.size; omega) (.slice qa M qc)) (b := w.heap.size + 1 + 1 + 1) (by omega) (.slice ka s.cells.length kc) (.slice none 0 0) (.slice qa M qc) (.slice va (s.past.length + 1) vc)
  have n3 : ¬ (w0.heap.size ≤ w.heap.size + 1 + 1 + 1) := by omega
  refine bodyPost_ret (by simp [results, Try.results30, go_sem, q0, q1, q2, q3]; rfl) rfl ?_
  refine ⟨_, rfl, m2, Rd.widen (A := fun k => w0.heap.size ≤ k) (agg_rd (st_rd (s := commitSt s ⟨rc, rt, ⟨rk, ra, ro, rn⟩⟩ ⟨x, n⟩) ?_ ?_ ?_ ?_)) (fun k _ h => .inr (by omega))⟩
  · exact (rd_ints OC2.out).set4 n3 _ _ _ _
  · exact Rd.all fun w => writes_nil w
  · exact (rd_anss OA2.out).set4 n3 _ _ _ _
  · exact (rd_rqs OP2.out).set4 n3 _ _ _ _

end Go.Proofs.Ytdmipnnfoolelac

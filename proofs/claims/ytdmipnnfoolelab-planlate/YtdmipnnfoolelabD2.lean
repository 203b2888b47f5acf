/- Walks over what the document says of cells: writes, and what takes them back; comparing. -/
import Derived.Test.YtdmipnnfoolelabW1b
namespace Go.Proofs.Ytdmipnnfoolelab
open Go.RowKit Go.Mk

set_option maxHeartbeats 1000000 in
theorem refSet_own (v u : Value) (xs : List Int) (l : List (Int × Int)) (w : World) (hv : Ints w v xs) (hu : Writes w u l) (hr : xs.length * 8 ≤ 140737488355328) (hr2 : l.length * 16 ≤ 140737488355328) :
    Gives Try.prog 20 #[v, u] w fun r w' => ∃ n, w'.ownsRow w.heap.size 3 1 r n ((setAll xs l).map I) := by
  unfold Gives
  obtain ⟨i0, hi, hz0, hz1, hz2⟩ := info_parts Try.infoInt
  obtain ⟨ao, cap, rfl, h1, h2, h3⟩ := hv.form
  obtain ⟨bo, cap', rfl, g1, g2, g3⟩ := hu.form
  unfold maxLen at h2 g2
  clear hv hu
  go_enter Try.func20, Try.ntmps20
  go_wp2
  go_loopw [5, 12] (fun o i wr => ∃ k : Nat, k ≤ xs.length ∧ i = I k ∧ wr.ownsRow w.heap.size 3 1 o k (((setAll xs l).take k).map I) ∧ Ext w wr) (fun _ i _ => xs.length - (intOf i).toNat)
  case atStart => exact ⟨0, by omega, rfl, World.ownsRow_nil _ _ _ _, Ext.refl _⟩
  case round =>
    obtain ⟨k, hk, rfl, hout, he⟩ := hrel
    by_cases hlt : k < xs.length
    · obtain ⟨b, off, rfl, hc⟩ := h3 k hlt
      have hd := he.cell hc
      clear hc h3
      have HT : Hid ((setAll xs l).take (k + 1) = (setAll xs l).take k ++ [lastAt l k (xs.getD k 0)]) := setAll_take xs l k hlt
      generalize xs.getD k 0 = x at hd HT
      go_wp2
      go_loopw [7, 19] (fun n j wr => ∃ m : Nat, m ≤ l.length ∧ j = I m ∧ n = I (lastAt (l.take m) k x) ∧ wr.ownsRow w.heap.size 3 1 u5 k (((setAll xs l).take k).map I) ∧ Ext w wr) (fun _ j _ => l.length - (intOf j).toNat)
      case atStart => exact ⟨0, by omega, rfl, rfl, hout, he⟩
      case round =>
        obtain ⟨m, hm, rfl, rfl, hout', he'⟩ := hrel
        clear hout he hd
        by_cases hml : m < l.length
        · obtain ⟨b', off', rfl, hc1, hc2⟩ := g3 m hml
          have hd1 := he'.cell hc1
          have hd2 := he'.cell hc2
          clear hc1 hc2 g3
          generalize hp : l.getD m (0, 0) = p at hd1 hd2
          have HP : Hid (l[m]? = some p) := by unfold Hid; rw [← hp]; simp [hml]
          clear hp
          obtain ⟨at_, n⟩ := p
          have HL : Hid (lastAt (l.take (m + 1)) k x = if at_ = (k : Int) then n else lastAt (l.take m) k x) := by
            unfold Hid; rw [List.take_add_one, HP.out]; exact lastAt_snoc _ _ _ _
          generalize lastAt (l.take m) k x = y at HL
          simp only [] at hd1 hd2
          by_cases hat : at_ = (k : Int)
          · have hb : (at_ == (k : Int)) = true := by simp [hat]
            have HA : Hid (at_ = (k : Int)) := hat
            clear hat
            go_wp2
            go_roundw
            case rel => exact ⟨m + 1, by omega, by go_num, by rw [HL.out, if_pos HA.out], hout'.alloc _, he'.alloc _⟩
            case measure => simp [intOf]; omega
          · have hb : (at_ == (k : Int)) = false := by simpa using hat
            have HA : Hid (¬ at_ = (k : Int)) := hat
            clear hat
            go_wp2
            go_roundw
            case rel => exact ⟨m + 1, by omega, by go_num, by rw [HL.out, if_neg HA.out], hout'.alloc _, he'.alloc _⟩
            case measure => simp [intOf]; omega
        · have e7 : lastAt (l.take m) k x = lastAt l k x := by rw [List.take_of_length_le (by omega)]
          rw [e7]
          clear g3 e7
          generalize lastAt l k x = y at HT ⊢
          have hsz := he'.size
          have hbl := hout'.lt
          go_wp2_with (at_builtin; refine wpList_append_row _ rfl _ _ 22 rfl w.heap.size 3 i0 (.int .i64 0) 1 8 Try.underlying22 hi hz0 hz1 hz2 rfl (by decide) _ _ _ rfl (hout'.alloc _) _ rfl 1 [I y] (ints_lit (l := [y]) _ _ 1 rfl rfl (by decide)) (mapI_one [y]) (by omega) (by decide) (by simp; omega) ?_; intro o' w3 ho hg)
          have he3 : Ext w w3 := (he'.alloc _).grown hg (fun k hk => (hbl k hk).1)
          clear hg
          go_wp2
          go_roundw
          case rel =>
            refine ⟨k + 1, by omega, by go_num, ?_, he3⟩
            rw [HT.out, List.map_append]
            exact ho
          case measure => simp [intOf]; omega
    · go_wp2
      go_ret
      rw [List.take_of_length_le (by rw [length_setAll]; omega)] at hout
      exact ⟨_, rfl, he, _, hout⟩

theorem refSet_any (v u : Value) (xs : List Int) (l : List (Int × Int)) (w : World) (hv : Ints w v xs) (hu : Writes w u l) (hr : xs.length * 8 ≤ 140737488355328) (hr2 : l.length * 16 ≤ 140737488355328) :
    Gives Try.prog 20 #[v, u] w fun r w' => Ints w' r (setAll xs l) :=
  (refSet_own v u xs l w hv hu hr hr2).mono fun _ _ _ ⟨_, h⟩ => ints_of_owns h

set_option maxHeartbeats 400000 in
theorem sameWrites_any (u v : Value) (xs ys : List (Int × Int)) (w : World) (hu : Writes w u xs) (hv : Writes w v ys) :
    Calls Try.prog 10 #[u, v] w fun e w' => e = .returned (.bool (decide (xs = ys))) ∧ ∃ n, w' = w.drewN n := by
  obtain ⟨ao, cap, rfl, h1, h2, h3⟩ := hu.form
  obtain ⟨bo, cap', rfl, g1, g2, g3⟩ := hv.form
  unfold maxLen at h2 g2
  clear hu hv
  by_cases hl : xs.length = ys.length
  · have hne : (((xs.length : Int)) != (ys.length : Int)) = false := by rw [bne_eq_false_iff_eq]; omega
    have HL : Hid (xs.length = ys.length) := hl
    clear hl
    go_enter Try.func10, Try.ntmps10
    go_wp2
    go_loopw [13] (fun i wr => ∃ k : Nat, k ≤ xs.length ∧ i = I k ∧ xs.take k = ys.take k ∧ ∃ n, wr = w.drewN n) (fun i _ => xs.length - (intOf i).toNat)
    case atStart => exact ⟨0, by omega, rfl, rfl, 0, rfl⟩
    case round =>
      obtain ⟨k, hk, rfl, hf, n, rfl⟩ := hrel
      have HF : Hid (xs.take k = ys.take k) := hf
      clear hf
      by_cases hlt : k < xs.length
      · have hlt' : k < ys.length := by have := HL.out; omega
        obtain ⟨b, off, rfl, hc, hd⟩ := h3 k hlt
        obtain ⟨b', off', rfl, hc', hd'⟩ := g3 k hlt'
        clear h3 g3
        generalize hX : xs.getD k (0, 0) = x at hc hd
        generalize hY : ys.getD k (0, 0) = y at hc' hd'
        have HX : Hid (xs[k]? = some x) := by unfold Hid; rw [← hX]; simp [hlt]
        have HY : Hid (ys[k]? = some y) := by unfold Hid; rw [← hY]; simp [hlt']
        clear hX hY
        obtain ⟨x1, x2⟩ := x
        obtain ⟨y1, y2⟩ := y
        simp only [] at hc hd hc' hd'
        have b1 : (0 : Int) ≤ (k : Int) := by omega
        have b2 : (k : Int) < (xs.length : Int) := by omega
        have b3 : (k : Int) < (ys.length : Int) := by omega
        have hst : Try.prog.stoodInHeld 43 = false := by kernel_rfl
        have hgd : Try.prog.eqGuardType Try.prog.depth 43 = false := by kernel_rfl
        by_cases hx : x1 = y1
        · have hb1 : (x1 == y1) = true := by simp [hx]
          have HX1 : Hid (x1 = y1) := hx
          clear hx
          by_cases hy : x2 = y2
          · have hb2 : (x2 == y2) = true := by simp [hy]
            have HX2 : Hid (x2 = y2) := hy
            clear hy
            go_wp2_with fail
            go_quiet (fail)
            go_wp2
            go_roundw
            case rel => exact ⟨k + 1, by omega, by go_num, by rw [List.take_add_one, List.take_add_one, HF.out, HX.out, HY.out, HX1.out, HX2.out], _, rfl⟩
            case measure => simp [intOf]; omega
          · have hb2 : (x2 == y2) = false := by simpa using hy
            have HX2 : Hid (x2 ≠ y2) := hy
            clear hy
            go_wp2_with fail
            go_quiet (fail)
            go_wp2
            go_ret
            refine ⟨ret_bool ?_, _, World.drewN_drewN _ _ _⟩
            symm
            rw [decide_eq_false_iff_not]
            intro e
            have h := HX.out
            rw [e, HY.out] at h
            simp only [Option.some.injEq, Prod.mk.injEq] at h
            exact HX2.out h.2.symm
        · have hb1 : (x1 == y1) = false := by simpa using hx
          have HX1 : Hid (x1 ≠ y1) := hx
          clear hx
          go_wp2_with fail
          go_quiet (fail)
          go_wp2
          go_ret
          refine ⟨ret_bool ?_, _, World.drewN_drewN _ _ _⟩
          symm
          rw [decide_eq_false_iff_not]
          intro e
          have h := HX.out
          rw [e, HY.out] at h
          simp only [Option.some.injEq, Prod.mk.injEq] at h
          exact HX1.out h.1.symm
      · go_wp2
        go_ret
        refine ⟨ret_bool ?_, _, rfl⟩
        symm
        rw [decide_eq_true_eq]
        have h := HF.out
        rwa [List.take_of_length_le (by omega), List.take_of_length_le (by have := HL.out; omega)] at h
  · have hne : (((xs.length : Int)) != (ys.length : Int)) = true := by rw [bne_iff_ne]; omega
    go_enter Try.func10, Try.ntmps10
    go_wp2
    go_ret
    refine ⟨ret_bool ?_, 0, rfl⟩
    symm
    rw [decide_eq_false_iff_not]
    intro e
    exact hl (by rw [e])

end Go.Proofs.Ytdmipnnfoolelab

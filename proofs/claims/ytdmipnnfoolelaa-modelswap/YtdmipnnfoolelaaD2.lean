/- Walks over what the document says of cells: writes, and what takes them back; comparing. -/
import Derived.Test.YtdmipnnfoolelaaW1b
namespace Go.Proofs.Ytdmipnnfoolelaa
open Go.RowKit Go.Mk

set_option maxHeartbeats 1000000 in
theorem refSet_own (v u : Value) (xs : List Int) (l : List (Int × Int)) (w : World) (hv : Ints w v xs) (hu : Writes w u l) (hr : xs.length * 8 ≤ 140737488355328) (hr2 : l.length * 16 ≤ 140737488355328) :
    Gives Try.prog 14 #[v, u] w fun r w' => ∃ n, w'.ownsRow w.heap.size 3 1 r n ((setAll xs l).map I) := by
  unfold Gives
  obtain ⟨i0, hi, hz0, hz1, hz2⟩ := info_parts Try.infoInt
  obtain ⟨ao, cap, rfl, h1, h2, h3⟩ := hv.form
  obtain ⟨bo, cap', rfl, g1, g2, g3⟩ := hu.form
  unfold maxLen at h2 g2
  clear hv hu
  go_enter Try.func14, Try.ntmps14
  go_wp2
  go_loopw [5, 12] (fun o i wr => ∃ k : Nat, k ≤ xs.length ∧ i = I k ∧ wr.ownsRow w.heap.size 3 1 o k (((setAll xs l).take k).map I) ∧ Ext w wr) (fun _ i _ => xs.length - (intOf i).toNat)
  case atStart => exact ⟨0, by omega, rfl, World.ownsRow_nil _ _ _ _, Ext.refl _⟩
  case round =>
    obtain ⟨k, hk, rfl, hout, he⟩ := hrel
    by_cases hlt : k < xs.length
    · obtain ⟨b, off, rfl, hc⟩ := h3 k hlt
      have hd := he.cell hc
      clear hc h3
      have HT : Hid ((setAll xs l).take (k + 1) = (setAll xs l).take k ++ [lastAt l k (xs.getD k 0)]) := setAll_take xs l k hlt
      generalize xs.getD k 0 = x at hd HT
      go_wp2
      go_loopw [7, 19] (fun n j wr => ∃ m : Nat, m ≤ l.length ∧ j = I m ∧ n = I (lastAt (l.take m) k x) ∧ wr.ownsRow w.heap.size 3 1 u5 k (((setAll xs l).take k).map I) ∧ Ext w wr) (fun _ j _ => l.length - (intOf j).toNat)
      case atStart => exact ⟨0, by omega, rfl, rfl, hout, he⟩
      case round =>
        obtain ⟨m, hm, rfl, rfl, hout', he'⟩ := hrel
        clear hout he hd
        by_cases hml : m < l.length
        · obtain ⟨b', off', rfl, hc1, hc2⟩ := g3 m hml
          have hd1 := he'.cell hc1
          have hd2 := he'.cell hc2
          clear hc1 hc2 g3
          generalize hp : l.getD m (0, 0) = p at hd1 hd2
          have HP : Hid (l[m]? = some p) := by unfold Hid; rw [← hp]; simp [hml]
          clear hp
          obtain ⟨at_, n⟩ := p
          have HL : Hid (lastAt (l.take (m + 1)) k x = if at_ = (k : Int) then n else lastAt (l.take m) k x) := by
            unfold Hid; rw [List.take_add_one, HP.out]; exact lastAt_snoc _ _ _ _
          generalize lastAt (l.take m) k x = y at HL
          simp only [] at hd1 hd2
          by_cases hat : at_ = (k : Int)
          · have hb : (at_ == (k : Int)) = true := by simp [hat]
            have HA : Hid (at_ = (k : Int)) := hat
            clear hat
            go_wp2
            go_roundw
            case rel => exact ⟨m + 1, by omega, by go_num, by rw [HL.out, if_pos HA.out], hout'.alloc _, he'.alloc _⟩
            case measure => simp [intOf]; omega
          · have hb : (at_ == (k : Int)) = false := by simpa using hat
            have HA : Hid (¬ at_ = (k : Int)) := hat
            clear hat
            go_wp2
            go_roundw
            case rel => exact ⟨m + 1, by omega, by go_num, by rw [HL.out, if_neg HA.out], hout'.alloc _, he'.alloc _⟩
            case measure => simp [intOf]; omega
        · have e7 : lastAt (l.take m) k x = lastAt l k x := by rw [List.take_of_length_le (by omega)]
          rw [e7]
          clear g3 e7
          generalize lastAt l k x = y at HT ⊢
          have hsz := he'.size
          have hbl := hout'.lt
          go_wp2_with (at_builtin; refine wpList_append_row _ rfl _ _ 22 rfl w.heap.size 3 i0 (.int .i64 0) 1 8 Try.underlying22 hi hz0 hz1 hz2 rfl (by decide) _ _ _ rfl (hout'.alloc _) _ rfl 1 [I y] (ints_lit (l := [y]) _ _ 1 rfl rfl (by decide)) (mapI_one [y]) (by omega) (by decide) (by simp; omega) ?_; intro o' w3 ho hg)
          have he3 : Ext w w3 := (he'.alloc _).grown hg (fun k hk => (hbl k hk).1)
          clear hg
          go_wp2
          go_roundw
          case rel =>
            refine ⟨k + 1, by omega, by go_num, ?_, he3⟩
            rw [HT.out, List.map_append]
            exact ho
          case measure => simp [intOf]; omega
    · go_wp2
      go_ret
      rw [List.take_of_length_le (by rw [length_setAll]; omega)] at hout
      exact ⟨_, rfl, he, _, hout⟩

theorem refSet_any (v u : Value) (xs : List Int) (l : List (Int × Int)) (w : World) (hv : Ints w v xs) (hu : Writes w u l) (hr : xs.length * 8 ≤ 140737488355328) (hr2 : l.length * 16 ≤ 140737488355328) :
    Gives Try.prog 14 #[v, u] w fun r w' => Ints w' r (setAll xs l) :=
  (refSet_own v u xs l w hv hu hr hr2).mono fun _ _ _ ⟨_, h⟩ => ints_of_owns h

set_option maxHeartbeats 1000000 in
theorem refUndo_any (v u : Value) (xs : List Int) (l : List (Int × Int)) (w : World) (hv : Ints w v xs) (hu : Writes w u l) (hr : xs.length * 8 ≤ 140737488355328) (hr2 : l.length * 16 ≤ 140737488355328) :
    Gives Try.prog 17 #[v, u] w fun r w' => Writes w' r (undoAll xs l) := by
  unfold Gives
  obtain ⟨i0, hi, hz0, hz1, hz2⟩ := info_parts Try.infoWrite
  obtain ⟨ao, cap, rfl, h1, h2, h3⟩ := hv.form
  obtain ⟨bo, cap', rfl, g1, g2, g3⟩ := hu.form
  unfold maxLen at h2 g2
  clear h3
  go_enter Try.func17, Try.ntmps17
  go_wp2
  go_loopw [5, 10] (fun o i wr => ∃ k : Nat, k ≤ l.length ∧ i = I k ∧ Writes wr o (undoAll xs (l.take k)) ∧ Ext w wr) (fun _ i _ => l.length - (intOf i).toNat)
  case atStart => exact ⟨0, by omega, rfl, writes_nil _, Ext.refl _⟩
  case round =>
    obtain ⟨k, hk, rfl, hout, he⟩ := hrel
    by_cases hlt : k < l.length
    · obtain ⟨b, off, rfl, hc1, hc2⟩ := g3 k hlt
      have hd1 := he.cell hc1
      have hd2 := he.cell hc2
      clear hc1 hc2 g3
      generalize hp : l.getD k (0, 0) = p at hd1 hd2
      have HP : Hid (l[k]? = some p) := by unfold Hid; rw [← hp]; simp [hlt]
      clear hp
      obtain ⟨at_, n⟩ := p
      simp only [] at hd1 hd2
      have HU : Hid (undoAll xs (l.take (k + 1)) = (if 0 ≤ at_ ∧ at_ < (xs.length : Int) then [(at_, (setAll xs (l.take k)).getD at_.toNat 0)] else []) ++ undoAll xs (l.take k)) := by
        unfold Hid
        rw [List.take_add_one, HP.out]
        exact undoAll_snoc _ _ _
      have hul : (undoAll xs (l.take k)).length ≤ k := by have := undoAll_len xs (l.take k); simp at this; omega
      have hyl : (setAll xs (l.take k)).length = xs.length := length_setAll _ _
      by_cases i1 : 0 ≤ at_
      · by_cases i2 : at_ < (xs.length : Int)
        · have HI : Hid (undoAll xs (l.take (k + 1)) = (at_, (setAll xs (l.take k)).getD at_.toNat 0) :: undoAll xs (l.take k)) := by unfold Hid; rw [HU.out, if_pos ⟨i1, i2⟩]; rfl
          have hwt := hu.take k (by omega)
          clear HU
          go_wp2
          have e1 : (wr.alloc (Obj.cells #[Value.int IntKind.i64 at_, Value.int IntKind.i64 n] 34)).cell? ⟨wr.heap.size, 0, none⟩ = some (I at_) := by simp
          have he1 := he.alloc (Obj.cells #[Value.int IntKind.i64 at_, Value.int IntKind.i64 n] 34)
          have hout1 := hout.ext ((Ext.refl wr).alloc (Obj.cells #[Value.int IntKind.i64 at_, Value.int IntKind.i64 n] 34))
          generalize wr.alloc (Obj.cells #[Value.int IntKind.i64 at_, Value.int IntKind.i64 n] 34) = W at *
          clear hd1 hd2 he hout
          have hyt : at_.toNat < (setAll xs (l.take k)).length := by omega
          have HY : Hid ((setAll xs (l.take k)).getD at_.toNat 0 = (setAll xs (l.take k)).getD at_.toNat 0) := rfl
          have hset : ∀ w', Ext W w' → Gives Try.prog 14 #[.slice ao xs.length cap, .slice (some ⟨b, off, none⟩) k cap'] w' fun r w'' => Ints w'' r (setAll xs (l.take k)) := fun w' hw' =>
            refSet_any _ _ xs (l.take k) w' (hv.ext (he1.trans hw')) (hwt.ext (he1.trans hw')) hr (by simp; omega)
          generalize hZ : undoAll xs (l.take k) = us at *
          generalize hS : setAll xs (l.take k) = ys at *
          clear hZ hS
          generalize hY : ys.getD at_.toNat 0 = y at *
          refine wp_region_mono_tail 14 [none, none, none, none, none, none, some (.inr fun r w' => Ints w' r ys), none, none, some (.inr (At (I y))), some (.inl (I y)), none, some (.inr fun r w' => w'.ownsRow W.heap.size 34 2 r 1 (cells2 [(at_, y)])), none] (by kernel_rfl) (by kernel_rfl) ?_ ?_
          · exact ⟨trivial, trivial, trivial, trivial, trivial, trivial, monoInts _, trivial, trivial, monoAt _, trivial, trivial, monoOwns _ _ _ _ _, trivial, trivial⟩
          have hkc : k ≤ cap' := by omega
          iterate 1 (refine wpM_p (fun K hK => ?_); go_simp; refine hK _ ?_; clear hK K)
          refine wpM_q (I at_) rfl (fun w' hw' => by have := hw'.cell e1; go_simp) ?_
          iterate 4 (refine wpM_p (fun K hK => ?_); go_simp; refine hK _ ?_; clear hK K)
          refine wpM_l _ rfl (fun w' hw' _ => ?_) (fun v31 => ?_)
          · have hs := hset w' hw'
            clear hset
            unfold makes
            go_simp
            exact ⟨Ext.refl _, hs⟩
          clear hset
          iterate 1 (refine wpM_p (fun K hK => ?_); go_simp; refine hK _ ?_; clear hK K)
          refine wpM_q (I at_) rfl (fun w' hw' => by have := hw'.cell e1; go_simp) ?_
          refine wpM_l _ rfl (fun w' hw' hk => ?_) (fun v34 => ?_)
          · have h31 : Ints w' v31 ys := hk 31 (by decide)
            clear hk
            obtain ⟨ao', cp, hv31, q1, q2, q3⟩ := h31.form
            obtain ⟨b', off', rfl, hc⟩ := q3 at_.toNat hyt
            subst hv31
            have i3 : at_.toNat < ys.length := hyt
            have i4 : at_ < (ys.length : Int) := by omega
            unfold makes
            go_simp
            exact ⟨Ext.refl _, ⟨_, rfl, by rw [hY] at hc; exact hc⟩⟩
          refine wpM_x _ rfl (fun w' hw' hk => ?_) ?_
          · obtain ⟨p, hp, hc⟩ : At (I y) v34 w' := hk 34 (by decide)
            clear hk
            subst hp
            unfold makes
            go_simp
            exact ⟨Ext.refl _, rfl⟩
          iterate 1 (refine wpM_p (fun K hK => ?_); go_simp; refine hK _ ?_; clear hK K)
          refine wpM_l _ rfl (fun w' hw' _ => ?_) (fun v37 => ?_)
          · have hsz := hw'.size
            unfold makes
            go_simp
            exact ⟨(Ext.refl _).alloc _, World.ownsRow_lit w' _ 1 hsz (by decide) rfl⟩
          iterate 1 (refine wpM_p (fun K hK => ?_); go_simp; refine hK _ ?_; clear hK K)
          refine wpM_nil ?_
          intro w2 he2 hF
          have h37 : w2.ownsRow W.heap.size 34 2 v37 1 (cells2 [(at_, y)]) := hF 37
          clear hF
          have h5 := hout1.ext he2
          have hb37 := h37.lt
          have HL5 : Hid (us.length ≤ k) := hul
          refine wpList_append_row _ rfl (.tmp 37) (.tmp 38) 23 rfl W.heap.size 34 i0 _ 2 16 Try.underlying23 hi hz0 hz1 hz2 rfl (by decide) v37 1 _ rfl h37 u5 rfl us.length _ h5 (cells2_one _) (by omega) (by decide) he2.size ?_
          intro o' w3 ho hg3
          have he3 : Ext w w3 := (he1.trans he2).grown hg3 (fun k hk => Nat.le_trans he1.size (hb37 k hk).1)
          clear hg3 h37 h5 e1 he1 hout1 he2
          go_wp2
          go_roundw
          case rel =>
            refine ⟨k + 1, by omega, by go_num, ?_, he3⟩
            rw [HI.out]
            have := ho
            rw [← cells2_append] at this
            exact writes_of_owns this
          case measure => simp [intOf]; omega
        · go_wp2
          go_roundw
          case rel => exact ⟨k + 1, by omega, by go_num, by rw [HU.out, if_neg (by omega), List.nil_append]; exact hout.ext ((Ext.refl _).alloc _), he.alloc _⟩
          case measure => simp [intOf]; omega
      · go_wp2
        go_roundw
        case rel => exact ⟨k + 1, by omega, by go_num, by rw [HU.out, if_neg (by omega), List.nil_append]; exact hout.ext ((Ext.refl _).alloc _), he.alloc _⟩
        case measure => simp [intOf]; omega
    · go_wp2
      go_ret
      rw [List.take_of_length_le (by omega)] at hout
      exact ⟨_, rfl, he, hout⟩

set_option maxHeartbeats 400000 in
theorem sameWrites_any (u v : Value) (xs ys : List (Int × Int)) (w : World) (hu : Writes w u xs) (hv : Writes w v ys) :
    Calls Try.prog 15 #[u, v] w fun e w' => e = .returned (.bool (decide (xs = ys))) ∧ ∃ n, w' = w.drewN n := by
  obtain ⟨ao, cap, rfl, h1, h2, h3⟩ := hu.form
  obtain ⟨bo, cap', rfl, g1, g2, g3⟩ := hv.form
  unfold maxLen at h2 g2
  clear hu hv
  by_cases hl : xs.length = ys.length
  · have hne : (((xs.length : Int)) != (ys.length : Int)) = false := by rw [bne_eq_false_iff_eq]; omega
    have HL : Hid (xs.length = ys.length) := hl
    clear hl
    go_enter Try.func15, Try.ntmps15
    go_wp2
    go_loopw [13] (fun i wr => ∃ k : Nat, k ≤ xs.length ∧ i = I k ∧ xs.take k = ys.take k ∧ ∃ n, wr = w.drewN n) (fun i _ => xs.length - (intOf i).toNat)
    case atStart => exact ⟨0, by omega, rfl, rfl, 0, rfl⟩
    case round =>
      obtain ⟨k, hk, rfl, hf, n, rfl⟩ := hrel
      have HF : Hid (xs.take k = ys.take k) := hf
      clear hf
      by_cases hlt : k < xs.length
      · have hlt' : k < ys.length := by have := HL.out; omega
        obtain ⟨b, off, rfl, hc, hd⟩ := h3 k hlt
        obtain ⟨b', off', rfl, hc', hd'⟩ := g3 k hlt'
        clear h3 g3
        generalize hX : xs.getD k (0, 0) = x at hc hd
        generalize hY : ys.getD k (0, 0) = y at hc' hd'
        have HX : Hid (xs[k]? = some x) := by unfold Hid; rw [← hX]; simp [hlt]
        have HY : Hid (ys[k]? = some y) := by unfold Hid; rw [← hY]; simp [hlt']
        clear hX hY
        obtain ⟨x1, x2⟩ := x
        obtain ⟨y1, y2⟩ := y
        simp only [] at hc hd hc' hd'
        have b1 : (0 : Int) ≤ (k : Int) := by omega
        have b2 : (k : Int) < (xs.length : Int) := by omega
        have b3 : (k : Int) < (ys.length : Int) := by omega
        have hst : Try.prog.stoodInHeld 34 = false := by kernel_rfl
        have hgd : Try.prog.eqGuardType Try.prog.depth 34 = false := by kernel_rfl
        by_cases hx : x1 = y1
        · have hb1 : (x1 == y1) = true := by simp [hx]
          have HX1 : Hid (x1 = y1) := hx
          clear hx
          by_cases hy : x2 = y2
          · have hb2 : (x2 == y2) = true := by simp [hy]
            have HX2 : Hid (x2 = y2) := hy
            clear hy
            go_wp2_with fail
            go_quiet (fail)
            go_wp2
            go_roundw
            case rel => exact ⟨k + 1, by omega, by go_num, by rw [List.take_add_one, List.take_add_one, HF.out, HX.out, HY.out, HX1.out, HX2.out], _, rfl⟩
            case measure => simp [intOf]; omega
          · have hb2 : (x2 == y2) = false := by simpa using hy
            have HX2 : Hid (x2 ≠ y2) := hy
            clear hy
            go_wp2_with fail
            go_quiet (fail)
            go_wp2
            go_ret
            refine ⟨ret_bool ?_, _, World.drewN_drewN _ _ _⟩
            symm
            rw [decide_eq_false_iff_not]
            intro e
            have h := HX.out
            rw [e, HY.out] at h
            simp only [Option.some.injEq, Prod.mk.injEq] at h
            exact HX2.out h.2.symm
        · have hb1 : (x1 == y1) = false := by simpa using hx
          have HX1 : Hid (x1 ≠ y1) := hx
          clear hx
          go_wp2_with fail
          go_quiet (fail)
          go_wp2
          go_ret
          refine ⟨ret_bool ?_, _, World.drewN_drewN _ _ _⟩
          symm
          rw [decide_eq_false_iff_not]
          intro e
          have h := HX.out
          rw [e, HY.out] at h
          simp only [Option.some.injEq, Prod.mk.injEq] at h
          exact HX1.out h.1.symm
      · go_wp2
        go_ret
        refine ⟨ret_bool ?_, _, rfl⟩
        symm
        rw [decide_eq_true_eq]
        have h := HF.out
        rwa [List.take_of_length_le (by omega), List.take_of_length_le (by have := HL.out; omega)] at h
  · have hne : (((xs.length : Int)) != (ys.length : Int)) = true := by rw [bne_iff_ne]; omega
    go_enter Try.func15, Try.ntmps15
    go_wp2
    go_ret
    refine ⟨ret_bool ?_, 0, rfl⟩
    symm
    rw [decide_eq_false_iff_not]
    intro e
    exact hl (by rw [e])

end Go.Proofs.Ytdmipnnfoolelaa

/- Walks: the law WireUnlike. -/
import Derived.Test.YtdmipnnfoolelacE10
import Derived.Deep.DeepCutAuto
namespace Go.Proofs.Ytdmipnnfoolelac
open Go.RowKit Go.Mk

theorem four_blocks {w wx : World} {o1 o2 o3 o4 : Obj} (h : Ext ((((w.alloc o1).alloc o2).alloc o3).alloc o4) wx) : wx.heap[w.heap.size]? = some o1 ∧ wx.heap[w.heap.size + 1]? = some o2 ∧ wx.heap[w.heap.size + 1 + 1]? = some o3 ∧ wx.heap[w.heap.size + 1 + 1 + 1]? = some o4 := by
  have a1 := second_block h
  have a2 := first_block h
  have h2 : Ext ((w.alloc o1).alloc o2) wx := (((Ext.refl _).alloc o3).alloc o4).trans h
  refine ⟨first_block h2, second_block h2, ?_, ?_⟩
  · simpa using a2
  · simpa using a1

theorem eq6_makes {c1 t1 k1 a1 o1 n1 c2 t2 k2 a2 o2 n2 : Int} {D : Bool} {w : World} (h : D = true ↔ (c1 = c2 ∧ t1 = t2 ∧ k1 = k2 ∧ a1 = a2 ∧ o1 = o2 ∧ n1 = n2)) : makesUpon Try.prog w (fun v _ => v = Value.bool D) (if c1 = c2 then if t1 = t2 then if k1 = k2 then if a1 = a2 then if o1 = o2 then if n1 = n2 then Result.ok (Next.value (Value.bool true)) w else Result.ok (Next.value (Value.bool false)) w else Result.ok (Next.value (Value.bool false)) w else Result.ok (Next.value (Value.bool false)) w else Result.ok (Next.value (Value.bool false)) w else Result.ok (Next.value (Value.bool false)) w else Result.ok (Next.value (Value.bool false)) w) := by
  repeat' split
  all_goals refine ⟨Ext.refl _, congrArg Value.bool ?_⟩
  all_goals cases D <;> simp_all

theorem eq4_makes {c3 t3 x3 n3 c4 t4 x4 n4 : Int} {D : Bool} {w : World} (h : D = true ↔ (c3 = c4 ∧ t3 = t4 ∧ x3 = x4 ∧ n3 = n4)) : makesUpon Try.prog w (fun v _ => v = Value.bool D) (if c3 = c4 then if t3 = t4 then if x3 = x4 then if n3 = n4 then Result.ok (Next.value (Value.bool true)) w else Result.ok (Next.value (Value.bool false)) w else Result.ok (Next.value (Value.bool false)) w else Result.ok (Next.value (Value.bool false)) w else Result.ok (Next.value (Value.bool false)) w) := by
  repeat' split
  all_goals refine ⟨Ext.refl _, congrArg Value.bool ?_⟩
  all_goals cases D <;> simp_all

set_option maxRecDepth 100000 in
set_option maxHeartbeats 4000000 in
theorem WireUnlike_any (c1 t1 k1 a1 o1 n1 c2 t2 k2 a2 o2 n2 c3 t3 x3 n3 c4 t4 x4 n4 : Int) (w : World) :
    Gives Try.prog 4 #[RQ ⟨c1, t1, ⟨k1, a1, o1, n1⟩⟩, RQ ⟨c2, t2, ⟨k2, a2, o2, n2⟩⟩, AN ⟨c3, t3, ⟨x3, n3⟩⟩, AN ⟨c4, t4, ⟨x4, n4⟩⟩] w fun r _ => r = .bool true := by
  refine gives_exts ?_
  have hst : Try.prog.stoodInHeld 25 = false := by kernel_rfl
  have hgd : Try.prog.eqGuardType Try.prog.depth 25 = false := by kernel_rfl
  have hst2 : Try.prog.stoodInHeld 30 = false := by kernel_rfl
  have hgd2 : Try.prog.eqGuardType Try.prog.depth 30 = false := by kernel_rfl
  have m0 : Ext w ((((w.alloc (.cells #[I c1, I t1, I k1, I a1, I o1, I n1] 25)).alloc (.cells #[I c2, I t2, I k2, I a2, I o2, I n2] 25)).alloc (.cells #[I c3, I t3, I x3, I n3] 30)).alloc (.cells #[I c4, I t4, I x4, I n4] 30)) := ((((Ext.refl w).alloc _).alloc _).alloc _).alloc _
  have HB := Lib.hid (fun wx (h : Ext ((((w.alloc (.cells #[I c1, I t1, I k1, I a1, I o1, I n1] 25)).alloc (.cells #[I c2, I t2, I k2, I a2, I o2, I n2] 25)).alloc (.cells #[I c3, I t3, I x3, I n3] 30)).alloc (.cells #[I c4, I t4, I x4, I n4] 30)) wx) => four_blocks h)
  go_enter Try.func4, Try.ntmps4
  go_wp2_with fail
  generalize hw0 : (((w.alloc (.cells #[I c1, I t1, I k1, I a1, I o1, I n1] 25)).alloc (.cells #[I c2, I t2, I k2, I a2, I o2, I n2] 25)).alloc (.cells #[I c3, I t3, I x3, I n3] 30)).alloc (.cells #[I c4, I t4, I x4, I n4] 30) = w0 at *
  have HW0 := Lib.hid hw0
  clear hw0
  refine Calls.exts (alive5_any _) (fun w1 e1 => ?_)
  go_upto_region 3 with fail
  go_cut [31] (fun s wc => s = .bool false ∧ Ext w0 wc)
  case first =>
    obtain ⟨k1, k2, -⟩ := HB.out w1 e1
    obtain ⟨⟨y0, y1, y2, y3, y4, y5⟩, -⟩ := box6 k1
    obtain ⟨⟨z0, z1, z2, z3, z4, z5⟩, -⟩ := box6 k2
    clear k1 k2
    have h1 := fun wx => WrongRequest_any c1 t1 k1 a1 o1 n1 wx
    have h2 := fun wx => WrongRequest_any c2 t2 k2 a2 o2 n2 wx
    by_cases hz1 : wrongRq ⟨c1, t1, ⟨k1, a1, o1, n1⟩⟩ = 0
    case neg =>
      have hb1 : (wrongRq ⟨c1, t1, ⟨k1, a1, o1, n1⟩⟩ == 0) = false := by simpa using hz1
      generalize wrongRq ⟨c1, t1, ⟨k1, a1, o1, n1⟩⟩ = W1 at *
      clear hz1 h2
      go_wp2_with fail
      refine wp_region_mono [none, some (.inl (I W1)), none, none, none, none, none, none, none, none, none, none, none, none, none, none, none, none, none, none, none] (by kernel_rfl) (by kernel_rfl) ?_ ?_
      · exact ⟨trivial, trivial, trivial, trivial, trivial, trivial, trivial, trivial, trivial, trivial, trivial, trivial, trivial, trivial, trivial, trivial, trivial, trivial, trivial, trivial, trivial, trivial⟩
      refine wpM_q (RQ ⟨c1, t1, ⟨k1, a1, o1, n1⟩⟩) rfl (fun w' hw' => by have q0 := hw'.cell y0; have q1 := hw'.cell y1; have q2 := hw'.cell y2; have q3 := hw'.cell y3; have q4 := hw'.cell y4; have q5 := hw'.cell y5; go_simp) ?_
      refine wpM_norm (fun K hK => ?_); go_simp; refine hK _ ?_; clear hK K
      refine wpM_x _ rfl (fun w' hw' hk => ?_) ?_
      · have hg := gives_exts (h1 w')
        clear hk
        unfold makes
        go_simp
        exact ⟨Ext.refl _, hg⟩
      refine wpM_norm (fun K hK => ?_); go_simp; refine hK _ ?_; clear hK K
      iterate 19 (refine wpM_p (fun K hK => ?_); go_simp; first | refine hK _ ?_ | refine ⟨(fun h => by cases h), hK _ ?_⟩; clear hK K)
      refine wpM_nil ?_
      intro w3 he3 _
      go_wp2_with fail
      go_meet
      case rel => exact ⟨rfl, e1.trans he3⟩

    by_cases hz2 : wrongRq ⟨c2, t2, ⟨k2, a2, o2, n2⟩⟩ = 0
    case neg =>
      have hb2 : (wrongRq ⟨c2, t2, ⟨k2, a2, o2, n2⟩⟩ == 0) = false := by simpa using hz2
      generalize wrongRq ⟨c2, t2, ⟨k2, a2, o2, n2⟩⟩ = W2 at *
      rw [hz1] at h1
      clear hz2 hz1
      go_wp2_with fail
      refine wp_region_mono [none, some (.inl (I 0)), none, none, none, some (.inl (I W2)), none, none, none, none, none, none, none, none, none, none, none, none, none, none, none] (by kernel_rfl) (by kernel_rfl) ?_ ?_
      · exact ⟨trivial, trivial, trivial, trivial, trivial, trivial, trivial, trivial, trivial, trivial, trivial, trivial, trivial, trivial, trivial, trivial, trivial, trivial, trivial, trivial, trivial, trivial⟩
      refine wpM_q (RQ ⟨c1, t1, ⟨k1, a1, o1, n1⟩⟩) rfl (fun w' hw' => by have q0 := hw'.cell y0; have q1 := hw'.cell y1; have q2 := hw'.cell y2; have q3 := hw'.cell y3; have q4 := hw'.cell y4; have q5 := hw'.cell y5; go_simp) ?_
      refine wpM_norm (fun K hK => ?_); go_simp; refine hK _ ?_; clear hK K
      refine wpM_x _ rfl (fun w' hw' hk => ?_) ?_
      · have hg := gives_exts (h1 w')
        clear hk
        unfold makes
        go_simp
        exact ⟨Ext.refl _, hg⟩
      refine wpM_norm (fun K hK => ?_); go_simp; refine hK _ ?_; clear hK K
      iterate 2 (refine wpM_p (fun K hK => ?_); go_simp; first | refine hK _ ?_ | refine ⟨(fun h => by cases h), hK _ ?_⟩; clear hK K)
      refine wpM_q (RQ ⟨c2, t2, ⟨k2, a2, o2, n2⟩⟩) rfl (fun w' hw' => by have q0 := hw'.cell z0; have q1 := hw'.cell z1; have q2 := hw'.cell z2; have q3 := hw'.cell z3; have q4 := hw'.cell z4; have q5 := hw'.cell z5; go_simp) ?_
      refine wpM_norm (fun K hK => ?_); go_simp; refine hK _ ?_; clear hK K
      refine wpM_x _ rfl (fun w' hw' hk => ?_) ?_
      · have hg := gives_exts (h2 w')
        clear hk
        unfold makes
        go_simp
        exact ⟨Ext.refl _, hg⟩
      refine wpM_norm (fun K hK => ?_); go_simp; refine hK _ ?_; clear hK K
      iterate 15 (refine wpM_p (fun K hK => ?_); go_simp; first | refine hK _ ?_ | refine ⟨(fun h => by cases h), hK _ ?_⟩; clear hK K)
      refine wpM_nil ?_
      intro w3 he3 _
      go_wp2_with fail
      go_meet
      case rel => exact ⟨rfl, e1.trans he3⟩

    have HI := Lib.hid (req_inj hz1 hz2)
    rw [hz1] at h1
    rw [hz2] at h2
    clear hz1 hz2
    obtain ⟨D, hD⟩ : ∃ D, D = decide (reqB ⟨c1, t1, ⟨k1, a1, o1, n1⟩⟩ = reqB ⟨c2, t2, ⟨k2, a2, o2, n2⟩⟩) := ⟨_, rfl⟩
    have HD := Lib.hid hD
    clear hD
    have HDE : Hid (D = true ↔ (c1 = c2 ∧ t1 = t2 ∧ k1 = k2 ∧ a1 = a2 ∧ o1 = o2 ∧ n1 = n2)) := by unfold Hid; rw [HD.out, decide_eq_true_iff, HI.out]; simp
    go_wp2_with fail
    refine wp_region_mono [none, some (.inl (I 0)), none, none, none, some (.inl (I 0)), none, none, none, none, some (.inr fun v wx => Bytes wx v (reqB ⟨c1, t1, ⟨k1, a1, o1, n1⟩⟩)), some (.inl (.string ⟨(reqB ⟨c1, t1, ⟨k1, a1, o1, n1⟩⟩).toArray⟩)), none, some (.inr fun v wx => Bytes wx v (reqB ⟨c2, t2, ⟨k2, a2, o2, n2⟩⟩)), some (.inl (.string ⟨(reqB ⟨c2, t2, ⟨k2, a2, o2, n2⟩⟩).toArray⟩)), some (.inl (.bool D)), none, none, some (.inl (.bool D)), none, none] (by kernel_rfl) (by kernel_rfl) ?_ ?_
    · exact ⟨trivial, trivial, trivial, trivial, trivial, trivial, trivial, trivial, trivial, trivial, monoBytes _, trivial, trivial, monoBytes _, trivial, trivial, trivial, trivial, trivial, trivial, trivial, trivial⟩
    refine wpM_q (RQ ⟨c1, t1, ⟨k1, a1, o1, n1⟩⟩) rfl (fun w' hw' => by have q0 := hw'.cell y0; have q1 := hw'.cell y1; have q2 := hw'.cell y2; have q3 := hw'.cell y3; have q4 := hw'.cell y4; have q5 := hw'.cell y5; go_simp) ?_
    refine wpM_norm (fun K hK => ?_); go_simp; refine hK _ ?_; clear hK K
    refine wpM_x _ rfl (fun w' hw' hk => ?_) ?_
    · have hg := gives_exts (h1 w')
      clear hk
      unfold makes
      go_simp
      exact ⟨Ext.refl _, hg⟩
    refine wpM_norm (fun K hK => ?_); go_simp; refine hK _ ?_; clear hK K
    iterate 2 (refine wpM_p (fun K hK => ?_); go_simp; first | refine hK _ ?_ | refine ⟨(fun h => by cases h), hK _ ?_⟩; clear hK K)
    refine wpM_q (RQ ⟨c2, t2, ⟨k2, a2, o2, n2⟩⟩) rfl (fun w' hw' => by have q0 := hw'.cell z0; have q1 := hw'.cell z1; have q2 := hw'.cell z2; have q3 := hw'.cell z3; have q4 := hw'.cell z4; have q5 := hw'.cell z5; go_simp) ?_
    refine wpM_norm (fun K hK => ?_); go_simp; refine hK _ ?_; clear hK K
    refine wpM_x _ rfl (fun w' hw' hk => ?_) ?_
    · have hg := gives_exts (h2 w')
      clear hk
      unfold makes
      go_simp
      exact ⟨Ext.refl _, hg⟩
    refine wpM_norm (fun K hK => ?_); go_simp; refine hK _ ?_; clear hK K
    iterate 3 (refine wpM_p (fun K hK => ?_); go_simp; first | refine hK _ ?_ | refine ⟨(fun h => by cases h), hK _ ?_⟩; clear hK K)
    refine wpM_q (RQ ⟨c1, t1, ⟨k1, a1, o1, n1⟩⟩) rfl (fun w' hw' => by have q0 := hw'.cell y0; have q1 := hw'.cell y1; have q2 := hw'.cell y2; have q3 := hw'.cell y3; have q4 := hw'.cell y4; have q5 := hw'.cell y5; go_simp) ?_
    refine wpM_norm (fun K hK => ?_); go_simp; refine hK _ ?_; clear hK K
    refine wpM_l _ rfl (fun w' hw' hk => ?_) (fun v21 => ?_)
    · have hg := Request_bytes c1 t1 k1 a1 o1 n1 w'
      clear hk
      unfold makes
      go_simp
      exact ⟨Ext.refl _, hg⟩
    refine wpM_norm (fun K hK => ?_); go_simp; refine hK _ ?_; clear hK K
    refine wpM_x _ rfl (fun w' hw' hk => ?_) ?_
    · have hb : Bytes w' v21 (reqB ⟨c1, t1, ⟨k1, a1, o1, n1⟩⟩) := hk 21 (by decide)
      have hcv := run_string_of (P := Try.prog) hb Try.underlying31 Try.underlying5 Try.underlying9
      clear hk
      unfold makes
      go_simp
      exact ⟨Ext.refl _, rfl⟩
    refine wpM_norm (fun K hK => ?_); go_simp; refine hK _ ?_; clear hK K
    refine wpM_q (RQ ⟨c2, t2, ⟨k2, a2, o2, n2⟩⟩) rfl (fun w' hw' => by have q0 := hw'.cell z0; have q1 := hw'.cell z1; have q2 := hw'.cell z2; have q3 := hw'.cell z3; have q4 := hw'.cell z4; have q5 := hw'.cell z5; go_simp) ?_
    refine wpM_norm (fun K hK => ?_); go_simp; refine hK _ ?_; clear hK K
    refine wpM_l _ rfl (fun w' hw' hk => ?_) (fun v24 => ?_)
    · have hg := Request_bytes c2 t2 k2 a2 o2 n2 w'
      clear hk
      unfold makes
      go_simp
      exact ⟨Ext.refl _, hg⟩
    refine wpM_norm (fun K hK => ?_); go_simp; refine hK _ ?_; clear hK K
    refine wpM_x _ rfl (fun w' hw' hk => ?_) ?_
    · have hb : Bytes w' v24 (reqB ⟨c2, t2, ⟨k2, a2, o2, n2⟩⟩) := hk 24 (by decide)
      have hcv := run_string_of (P := Try.prog) hb Try.underlying31 Try.underlying5 Try.underlying9
      clear hk
      unfold makes
      go_simp
      exact ⟨Ext.refl _, rfl⟩
    refine wpM_norm (fun K hK => ?_); go_simp; refine hK _ ?_; clear hK K
    refine wpM_x _ rfl (fun w' hw' hk => ?_) ?_
    · clear hk
      unfold makes
      go_simp
      exact ⟨Ext.refl _, congrArg Value.bool (by rw [HD.out, Bool.eq_iff_iff, beq_iff_eq, decide_eq_true_iff])⟩
    refine wpM_norm (fun K hK => ?_); go_simp; refine hK _ ?_; clear hK K
    refine wpM_q (RQ ⟨c1, t1, ⟨k1, a1, o1, n1⟩⟩) rfl (fun w' hw' => by have q0 := hw'.cell y0; have q1 := hw'.cell y1; have q2 := hw'.cell y2; have q3 := hw'.cell y3; have q4 := hw'.cell y4; have q5 := hw'.cell y5; go_simp) ?_
    refine wpM_norm (fun K hK => ?_); go_simp; refine hK _ ?_; clear hK K
    refine wpM_q (RQ ⟨c2, t2, ⟨k2, a2, o2, n2⟩⟩) rfl (fun w' hw' => by have q0 := hw'.cell z0; have q1 := hw'.cell z1; have q2 := hw'.cell z2; have q3 := hw'.cell z3; have q4 := hw'.cell z4; have q5 := hw'.cell z5; go_simp) ?_
    refine wpM_norm (fun K hK => ?_); go_simp; refine hK _ ?_; clear hK K
    refine wpM_x _ rfl (fun w' hw' hk => ?_) ?_
    · clear hk
      unfold makes
      go_simp
      exact eq6_makes HDE.out
    refine wpM_norm (fun K hK => ?_); go_simp; refine hK _ ?_; clear hK K
    iterate 2 (refine wpM_p (fun K hK => ?_); go_simp; first | refine hK _ ?_ | refine ⟨(fun h => by cases h), hK _ ?_⟩; clear hK K)
    refine wpM_nil ?_
    intro w3 he3 _
    go_wp2_with fail
    go_meet
    case rel => exact ⟨rfl, e1.trans he3⟩

  case rest =>
    rename World => w2
    obtain ⟨rfl, e2⟩ := hcut
    clear e1 w1
    go_wp2_with fail
    obtain ⟨-, -, k1, k2⟩ := HB.out w2 e2
    obtain ⟨y0, y1, y2, y3, -⟩ := box4 k1
    obtain ⟨z0, z1, z2, z3, -⟩ := box4 k2
    clear k1 k2
    have h1 := fun wx => WrongAnswer_any c3 t3 x3 n3 wx
    have h2 := fun wx => WrongAnswer_any c4 t4 x4 n4 wx
    by_cases hz1 : wrongAn ⟨c3, t3, ⟨x3, n3⟩⟩ = 0
    case neg =>
      have hb1 : (wrongAn ⟨c3, t3, ⟨x3, n3⟩⟩ != 0) = true := by simpa using hz1
      generalize wrongAn ⟨c3, t3, ⟨x3, n3⟩⟩ = W1 at *
      clear hz1 h2
      refine wp_region_mono [none, some (.inl (I W1)), none, none, none, none, none, none, none, none, none, none, none, none, none, none, none, none, none, none, none, none] (by kernel_rfl) (by kernel_rfl) ?_ ?_
      · exact ⟨trivial, trivial, trivial, trivial, trivial, trivial, trivial, trivial, trivial, trivial, trivial, trivial, trivial, trivial, trivial, trivial, trivial, trivial, trivial, trivial, trivial, trivial, trivial⟩
      refine wpM_q (AN ⟨c3, t3, ⟨x3, n3⟩⟩) rfl (fun w' hw' => by have q0 := hw'.cell y0; have q1 := hw'.cell y1; have q2 := hw'.cell y2; have q3 := hw'.cell y3; go_simp) ?_
      refine wpM_norm (fun K hK => ?_); go_simp; refine hK _ ?_; clear hK K
      refine wpM_x _ rfl (fun w' hw' hk => ?_) ?_
      · have hg := gives_exts (h1 w')
        clear hk
        unfold makes
        go_simp
        exact ⟨Ext.refl _, hg⟩
      refine wpM_norm (fun K hK => ?_); go_simp; refine hK _ ?_; clear hK K
      iterate 20 (refine wpM_p (fun K hK => ?_); go_simp; first | refine hK _ ?_ | refine ⟨(fun h => by cases h), hK _ ?_⟩; clear hK K)
      refine wpM_nil ?_
      intro w3 he3 _
      go_wp2
      go_ret
      exact ⟨rfl, m0.trans (e2.trans he3)⟩

    by_cases hz2 : wrongAn ⟨c4, t4, ⟨x4, n4⟩⟩ = 0
    case neg =>
      have hb2 : (wrongAn ⟨c4, t4, ⟨x4, n4⟩⟩ != 0) = true := by simpa using hz2
      generalize wrongAn ⟨c4, t4, ⟨x4, n4⟩⟩ = W2 at *
      rw [hz1] at h1
      clear hz2 hz1
      refine wp_region_mono [none, some (.inl (I 0)), none, none, none, some (.inl (I W2)), none, none, none, none, none, none, none, none, none, none, none, none, none, none, none, none] (by kernel_rfl) (by kernel_rfl) ?_ ?_
      · exact ⟨trivial, trivial, trivial, trivial, trivial, trivial, trivial, trivial, trivial, trivial, trivial, trivial, trivial, trivial, trivial, trivial, trivial, trivial, trivial, trivial, trivial, trivial, trivial⟩
      refine wpM_q (AN ⟨c3, t3, ⟨x3, n3⟩⟩) rfl (fun w' hw' => by have q0 := hw'.cell y0; have q1 := hw'.cell y1; have q2 := hw'.cell y2; have q3 := hw'.cell y3; go_simp) ?_
      refine wpM_norm (fun K hK => ?_); go_simp; refine hK _ ?_; clear hK K
      refine wpM_x _ rfl (fun w' hw' hk => ?_) ?_
      · have hg := gives_exts (h1 w')
        clear hk
        unfold makes
        go_simp
        exact ⟨Ext.refl _, hg⟩
      refine wpM_norm (fun K hK => ?_); go_simp; refine hK _ ?_; clear hK K
      iterate 2 (refine wpM_p (fun K hK => ?_); go_simp; first | refine hK _ ?_ | refine ⟨(fun h => by cases h), hK _ ?_⟩; clear hK K)
      refine wpM_q (AN ⟨c4, t4, ⟨x4, n4⟩⟩) rfl (fun w' hw' => by have q0 := hw'.cell z0; have q1 := hw'.cell z1; have q2 := hw'.cell z2; have q3 := hw'.cell z3; go_simp) ?_
      refine wpM_norm (fun K hK => ?_); go_simp; refine hK _ ?_; clear hK K
      refine wpM_x _ rfl (fun w' hw' hk => ?_) ?_
      · have hg := gives_exts (h2 w')
        clear hk
        unfold makes
        go_simp
        exact ⟨Ext.refl _, hg⟩
      refine wpM_norm (fun K hK => ?_); go_simp; refine hK _ ?_; clear hK K
      iterate 16 (refine wpM_p (fun K hK => ?_); go_simp; first | refine hK _ ?_ | refine ⟨(fun h => by cases h), hK _ ?_⟩; clear hK K)
      refine wpM_nil ?_
      intro w3 he3 _
      go_wp2
      go_ret
      exact ⟨rfl, m0.trans (e2.trans he3)⟩

    have HI := Lib.hid (ans_inj hz1 hz2)
    rw [hz1] at h1
    rw [hz2] at h2
    clear hz1 hz2
    obtain ⟨D, hD⟩ : ∃ D, D = decide (ansB ⟨c3, t3, ⟨x3, n3⟩⟩ = ansB ⟨c4, t4, ⟨x4, n4⟩⟩) := ⟨_, rfl⟩
    have HD := Lib.hid hD
    clear hD
    have HDE : Hid (D = true ↔ (c3 = c4 ∧ t3 = t4 ∧ x3 = x4 ∧ n3 = n4)) := by unfold Hid; rw [HD.out, decide_eq_true_iff, HI.out]; simp
    refine wp_region_mono [none, some (.inl (I 0)), none, none, none, some (.inl (I 0)), none, none, none, none, some (.inr fun v wx => Bytes wx v (ansB ⟨c3, t3, ⟨x3, n3⟩⟩)), some (.inl (.string ⟨(ansB ⟨c3, t3, ⟨x3, n3⟩⟩).toArray⟩)), none, some (.inr fun v wx => Bytes wx v (ansB ⟨c4, t4, ⟨x4, n4⟩⟩)), some (.inl (.string ⟨(ansB ⟨c4, t4, ⟨x4, n4⟩⟩).toArray⟩)), some (.inl (.bool D)), none, none, some (.inl (.bool D)), none, none, none] (by kernel_rfl) (by kernel_rfl) ?_ ?_
    · exact ⟨trivial, trivial, trivial, trivial, trivial, trivial, trivial, trivial, trivial, trivial, monoBytes _, trivial, trivial, monoBytes _, trivial, trivial, trivial, trivial, trivial, trivial, trivial, trivial, trivial⟩
    refine wpM_q (AN ⟨c3, t3, ⟨x3, n3⟩⟩) rfl (fun w' hw' => by have q0 := hw'.cell y0; have q1 := hw'.cell y1; have q2 := hw'.cell y2; have q3 := hw'.cell y3; go_simp) ?_
    refine wpM_norm (fun K hK => ?_); go_simp; refine hK _ ?_; clear hK K
    refine wpM_x _ rfl (fun w' hw' hk => ?_) ?_
    · have hg := gives_exts (h1 w')
      clear hk
      unfold makes
      go_simp
      exact ⟨Ext.refl _, hg⟩
    refine wpM_norm (fun K hK => ?_); go_simp; refine hK _ ?_; clear hK K
    iterate 2 (refine wpM_p (fun K hK => ?_); go_simp; first | refine hK _ ?_ | refine ⟨(fun h => by cases h), hK _ ?_⟩; clear hK K)
    refine wpM_q (AN ⟨c4, t4, ⟨x4, n4⟩⟩) rfl (fun w' hw' => by have q0 := hw'.cell z0; have q1 := hw'.cell z1; have q2 := hw'.cell z2; have q3 := hw'.cell z3; go_simp) ?_
    refine wpM_norm (fun K hK => ?_); go_simp; refine hK _ ?_; clear hK K
    refine wpM_x _ rfl (fun w' hw' hk => ?_) ?_
    · have hg := gives_exts (h2 w')
      clear hk
      unfold makes
      go_simp
      exact ⟨Ext.refl _, hg⟩
    refine wpM_norm (fun K hK => ?_); go_simp; refine hK _ ?_; clear hK K
    iterate 3 (refine wpM_p (fun K hK => ?_); go_simp; first | refine hK _ ?_ | refine ⟨(fun h => by cases h), hK _ ?_⟩; clear hK K)
    refine wpM_q (AN ⟨c3, t3, ⟨x3, n3⟩⟩) rfl (fun w' hw' => by have q0 := hw'.cell y0; have q1 := hw'.cell y1; have q2 := hw'.cell y2; have q3 := hw'.cell y3; go_simp) ?_
    refine wpM_norm (fun K hK => ?_); go_simp; refine hK _ ?_; clear hK K
    refine wpM_l _ rfl (fun w' hw' hk => ?_) (fun v42 => ?_)
    · have hg := Answer_bytes c3 t3 x3 n3 w'
      clear hk
      unfold makes
      go_simp
      exact ⟨Ext.refl _, hg⟩
    refine wpM_norm (fun K hK => ?_); go_simp; refine hK _ ?_; clear hK K
    refine wpM_x _ rfl (fun w' hw' hk => ?_) ?_
    · have hb : Bytes w' v42 (ansB ⟨c3, t3, ⟨x3, n3⟩⟩) := hk 42 (by decide)
      have hcv := run_string_of (P := Try.prog) hb Try.underlying31 Try.underlying5 Try.underlying9
      clear hk
      unfold makes
      go_simp
      exact ⟨Ext.refl _, rfl⟩
    refine wpM_norm (fun K hK => ?_); go_simp; refine hK _ ?_; clear hK K
    refine wpM_q (AN ⟨c4, t4, ⟨x4, n4⟩⟩) rfl (fun w' hw' => by have q0 := hw'.cell z0; have q1 := hw'.cell z1; have q2 := hw'.cell z2; have q3 := hw'.cell z3; go_simp) ?_
    refine wpM_norm (fun K hK => ?_); go_simp; refine hK _ ?_; clear hK K
    refine wpM_l _ rfl (fun w' hw' hk => ?_) (fun v45 => ?_)
    · have hg := Answer_bytes c4 t4 x4 n4 w'
      clear hk
      unfold makes
      go_simp
      exact ⟨Ext.refl _, hg⟩
    refine wpM_norm (fun K hK => ?_); go_simp; refine hK _ ?_; clear hK K
    refine wpM_x _ rfl (fun w' hw' hk => ?_) ?_
    · have hb : Bytes w' v45 (ansB ⟨c4, t4, ⟨x4, n4⟩⟩) := hk 45 (by decide)
      have hcv := run_string_of (P := Try.prog) hb Try.underlying31 Try.underlying5 Try.underlying9
      clear hk
      unfold makes
      go_simp
      exact ⟨Ext.refl _, rfl⟩
    refine wpM_norm (fun K hK => ?_); go_simp; refine hK _ ?_; clear hK K
    refine wpM_x _ rfl (fun w' hw' hk => ?_) ?_
    · clear hk
      unfold makes
      go_simp
      exact ⟨Ext.refl _, congrArg Value.bool (by rw [HD.out, Bool.eq_iff_iff, beq_iff_eq, decide_eq_true_iff])⟩
    refine wpM_norm (fun K hK => ?_); go_simp; refine hK _ ?_; clear hK K
    refine wpM_q (AN ⟨c3, t3, ⟨x3, n3⟩⟩) rfl (fun w' hw' => by have q0 := hw'.cell y0; have q1 := hw'.cell y1; have q2 := hw'.cell y2; have q3 := hw'.cell y3; go_simp) ?_
    refine wpM_norm (fun K hK => ?_); go_simp; refine hK _ ?_; clear hK K
    refine wpM_q (AN ⟨c4, t4, ⟨x4, n4⟩⟩) rfl (fun w' hw' => by have q0 := hw'.cell z0; have q1 := hw'.cell z1; have q2 := hw'.cell z2; have q3 := hw'.cell z3; go_simp) ?_
    refine wpM_norm (fun K hK => ?_); go_simp; refine hK _ ?_; clear hK K
    refine wpM_x _ rfl (fun w' hw' hk => ?_) ?_
    · clear hk
      unfold makes
      go_simp
      exact eq4_makes HDE.out
    refine wpM_norm (fun K hK => ?_); go_simp; refine hK _ ?_; clear hK K
    iterate 3 (refine wpM_p (fun K hK => ?_); go_simp; first | refine hK _ ?_ | refine ⟨(fun h => by cases h), hK _ ?_⟩; clear hK K)
    refine wpM_nil ?_
    intro w3 he3 _
    go_wp2
    go_ret
    exact ⟨rfl, m0.trans (e2.trans he3)⟩


end Go.Proofs.Ytdmipnnfoolelac

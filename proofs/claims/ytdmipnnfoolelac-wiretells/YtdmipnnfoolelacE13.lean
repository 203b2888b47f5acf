/- Walks: the law WireTells. -/
import Derived.Test.YtdmipnnfoolelacE10
import Derived.Deep.DeepCutAuto
namespace Go.Proofs.Ytdmipnnfoolelac
open Go.RowKit Go.Mk

set_option maxRecDepth 100000 in
set_option maxHeartbeats 8000000 in
theorem WireTells_any (v : Value) (c t k a o n c2 t2 x m : Int) (bs : List UInt8) (w : World) (hv : Bytes w v bs) :
    Gives Try.prog 3 #[RQ ⟨c, t, ⟨k, a, o, n⟩⟩, AN ⟨c2, t2, ⟨x, m⟩⟩, v] w fun r _ => r = .bool true := by
  refine gives_exts ?_
  have hst : Try.prog.stoodInHeld 25 = false := by kernel_rfl
  have hgd : Try.prog.eqGuardType Try.prog.depth 25 = false := by kernel_rfl
  have hst2 : Try.prog.stoodInHeld 30 = false := by kernel_rfl
  have hgd2 : Try.prog.eqGuardType Try.prog.depth 30 = false := by kernel_rfl
  have m0 : Ext w ((w.alloc (.cells #[I c, I t, I k, I a, I o, I n] 25)).alloc (.cells #[I c2, I t2, I x, I m] 30)) := ((Ext.refl w).alloc _).alloc _
  have HB : Hid (∀ wx, Ext ((w.alloc (.cells #[I c, I t, I k, I a, I o, I n] 25)).alloc (.cells #[I c2, I t2, I x, I m] 30)) wx → wx.heap[w.heap.size]? = some (.cells #[I c, I t, I k, I a, I o, I n] 25 (0, 0)) ∧ wx.heap[w.heap.size + 1]? = some (.cells #[I c2, I t2, I x, I m] 30 (0, 0))) := fun wx hx => ⟨first_block hx, second_block hx⟩
  have HV := Lib.hid hv
  clear hv
  have h1 := fun wx => WrongRequest_any c t k a o n wx
  have h2 := fun wx => refWrongRequest_any c t k a o n wx
  have h3 := fun wx => WrongAnswer_any c2 t2 x m wx
  have h4 := fun wx => refWrongAnswer_any c2 t2 x m wx
  generalize wrongRq ⟨c, t, ⟨k, a, o, n⟩⟩ = W1 at *
  generalize wrongAn ⟨c2, t2, ⟨x, m⟩⟩ = W2 at *
  go_enter Try.func3, Try.ntmps3
  go_wp2_with fail
  generalize hw0 : (w.alloc (.cells #[I c, I t, I k, I a, I o, I n] 25)).alloc (.cells #[I c2, I t2, I x, I m] 30) = w0 at *
  have HW0 := Lib.hid hw0
  clear hw0
  obtain ⟨k1, k2⟩ := HB.out w0 (Ext.refl _)
  obtain ⟨⟨y0, y1, y2, y3, y4, y5⟩, -⟩ := box6 k1
  obtain ⟨z0, z1, z2, z3, -⟩ := box4 k2
  refine wp_region_mono [none, some (.inl (I W1)), none, some (.inl (I W1)), none, none, none, some (.inl (I W2)), none, some (.inl (I W2)), none, none] (by kernel_rfl) (by kernel_rfl) ?_ ?_
  · exact ⟨trivial, trivial, trivial, trivial, trivial, trivial, trivial, trivial, trivial, trivial, trivial, trivial, trivial⟩
  refine wpM_q (RQ ⟨c, t, ⟨k, a, o, n⟩⟩) rfl (fun w' hw' => by have q0 := hw'.cell y0; have q1 := hw'.cell y1; have q2 := hw'.cell y2; have q3 := hw'.cell y3; have q4 := hw'.cell y4; have q5 := hw'.cell y5; go_simp) ?_
  refine wpM_norm (fun K hK => ?_); go_simp; refine hK _ ?_; clear hK K
  refine wpM_x _ rfl (fun w' hw' hk => ?_) ?_
  · have hg := gives_exts (h1 w')
    clear hk
    unfold makes
    go_simp
    exact ⟨Ext.refl _, hg⟩
  refine wpM_norm (fun K hK => ?_); go_simp; refine hK _ ?_; clear hK K
  refine wpM_q (RQ ⟨c, t, ⟨k, a, o, n⟩⟩) rfl (fun w' hw' => by have q0 := hw'.cell y0; have q1 := hw'.cell y1; have q2 := hw'.cell y2; have q3 := hw'.cell y3; have q4 := hw'.cell y4; have q5 := hw'.cell y5; go_simp) ?_
  refine wpM_norm (fun K hK => ?_); go_simp; refine hK _ ?_; clear hK K
  refine wpM_x _ rfl (fun w' hw' hk => ?_) ?_
  · have hg := gives_exts (h2 w')
    clear hk
    unfold makes
    go_simp
    exact ⟨Ext.refl _, hg⟩
  refine wpM_norm (fun K hK => ?_); go_simp; refine hK _ ?_; clear hK K
  iterate 2 (refine wpM_p (fun K hK => ?_); go_simp; first | refine hK _ ?_ | refine ⟨(fun h => by cases h), hK _ ?_⟩; clear hK K)
  refine wpM_q (AN ⟨c2, t2, ⟨x, m⟩⟩) rfl (fun w' hw' => by have q0 := hw'.cell z0; have q1 := hw'.cell z1; have q2 := hw'.cell z2; have q3 := hw'.cell z3; go_simp) ?_
  refine wpM_norm (fun K hK => ?_); go_simp; refine hK _ ?_; clear hK K
  refine wpM_x _ rfl (fun w' hw' hk => ?_) ?_
  · have hg := gives_exts (h3 w')
    clear hk
    unfold makes
    go_simp
    exact ⟨Ext.refl _, hg⟩
  refine wpM_norm (fun K hK => ?_); go_simp; refine hK _ ?_; clear hK K
  refine wpM_q (AN ⟨c2, t2, ⟨x, m⟩⟩) rfl (fun w' hw' => by have q0 := hw'.cell z0; have q1 := hw'.cell z1; have q2 := hw'.cell z2; have q3 := hw'.cell z3; go_simp) ?_
  refine wpM_norm (fun K hK => ?_); go_simp; refine hK _ ?_; clear hK K
  refine wpM_x _ rfl (fun w' hw' hk => ?_) ?_
  · have hg := gives_exts (h4 w')
    clear hk
    unfold makes
    go_simp
    exact ⟨Ext.refl _, hg⟩
  refine wpM_norm (fun K hK => ?_); go_simp; refine hK _ ?_; clear hK K
  iterate 2 (refine wpM_p (fun K hK => ?_); go_simp; first | refine hK _ ?_ | refine ⟨(fun h => by cases h), hK _ ?_⟩; clear hK K)
  refine wpM_nil ?_
  intro w2 e2 _
  clear y0 y1 y2 y3 y4 y5 z0 z1 z2 z3 k1 k2 h1 h3
  go_upto_region 3 with fail
  go_cut [50] (fun s wc => s = .bool false ∧ Ext w0 wc)
  case first =>
    obtain ⟨k1, k2⟩ := HB.out w2 e2
    obtain ⟨⟨y0, y1, y2, y3, y4, y5⟩, -⟩ := box6 k1
    obtain ⟨z0, z1, z2, z3, -⟩ := box4 k2
    clear k1 k2
    by_cases hz1 : W1 = 0
    · subst hz1
      by_cases hz2 : W2 = 0
      · subst hz2
        go_wp2_with fail
        refine wp_region_mono [none, some (.inl (I 0)), none, none, none, some (.inr fun v wx => Bytes wx v (reqB ⟨c, t, ⟨k, a, o, n⟩⟩)), some (.inl (.string ⟨(reqB ⟨c, t, ⟨k, a, o, n⟩⟩).toArray⟩)), none, some (.inr fun v wx => Bytes wx v (reqB ⟨c, t, ⟨k, a, o, n⟩⟩)), some (.inl (.string ⟨(reqB ⟨c, t, ⟨k, a, o, n⟩⟩).toArray⟩)), none, none, none, none, some (.inl (I 0)), none, none, none, some (.inr fun v wx => Bytes wx v (ansB ⟨c2, t2, ⟨x, m⟩⟩)), some (.inl (.string ⟨(ansB ⟨c2, t2, ⟨x, m⟩⟩).toArray⟩)), none, some (.inr fun v wx => Bytes wx v (ansB ⟨c2, t2, ⟨x, m⟩⟩)), some (.inl (.string ⟨(ansB ⟨c2, t2, ⟨x, m⟩⟩).toArray⟩)), none, none, none] (by kernel_rfl) (by kernel_rfl) ?_ ?_
        · exact ⟨trivial, trivial, trivial, trivial, trivial, monoBytes _, trivial, trivial, monoBytes _, trivial, trivial, trivial, trivial, trivial, trivial, trivial, trivial, trivial, monoBytes _, trivial, trivial, monoBytes _, trivial, trivial, trivial, trivial, trivial⟩
        refine wpM_q (RQ ⟨c, t, ⟨k, a, o, n⟩⟩) rfl (fun w' hw' => by have q0 := hw'.cell y0; have q1 := hw'.cell y1; have q2 := hw'.cell y2; have q3 := hw'.cell y3; have q4 := hw'.cell y4; have q5 := hw'.cell y5; go_simp) ?_
        refine wpM_norm (fun K hK => ?_); go_simp; refine hK _ ?_; clear hK K
        refine wpM_x _ rfl (fun w' hw' hk => ?_) ?_
        · have hg := gives_exts (h2 w')
          clear hk
          unfold makes
          go_simp
          exact ⟨Ext.refl _, hg⟩
        refine wpM_norm (fun K hK => ?_); go_simp; refine hK _ ?_; clear hK K
        iterate 2 (refine wpM_p (fun K hK => ?_); go_simp; first | refine hK _ ?_ | refine ⟨(fun h => by cases h), hK _ ?_⟩; clear hK K)
        refine wpM_q (RQ ⟨c, t, ⟨k, a, o, n⟩⟩) rfl (fun w' hw' => by have q0 := hw'.cell y0; have q1 := hw'.cell y1; have q2 := hw'.cell y2; have q3 := hw'.cell y3; have q4 := hw'.cell y4; have q5 := hw'.cell y5; go_simp) ?_
        refine wpM_norm (fun K hK => ?_); go_simp; refine hK _ ?_; clear hK K
        refine wpM_l _ rfl (fun w' hw' hk => ?_) (fun v30 => ?_)
        · have hg := Request_bytes c t k a o n w'
          clear hk
          unfold makes
          go_simp
          exact ⟨Ext.refl _, hg⟩
        refine wpM_norm (fun K hK => ?_); go_simp; refine hK _ ?_; clear hK K
        refine wpM_x _ rfl (fun w' hw' hk => ?_) ?_
        · have hb : Bytes w' v30 (reqB ⟨c, t, ⟨k, a, o, n⟩⟩) := hk 30 (by decide)
          have hcv := run_string_of (P := Try.prog) hb Try.underlying31 Try.underlying5 Try.underlying9
          clear hk
          unfold makes
          go_simp
          exact ⟨Ext.refl _, rfl⟩
        refine wpM_norm (fun K hK => ?_); go_simp; refine hK _ ?_; clear hK K
        refine wpM_q (RQ ⟨c, t, ⟨k, a, o, n⟩⟩) rfl (fun w' hw' => by have q0 := hw'.cell y0; have q1 := hw'.cell y1; have q2 := hw'.cell y2; have q3 := hw'.cell y3; have q4 := hw'.cell y4; have q5 := hw'.cell y5; go_simp) ?_
        refine wpM_norm (fun K hK => ?_); go_simp; refine hK _ ?_; clear hK K
        refine wpM_l _ rfl (fun w' hw' hk => ?_) (fun v33 => ?_)
        · have hg := RequestBytes_any c t k a o n w'
          clear hk
          unfold makes
          go_simp
          exact ⟨Ext.refl _, hg⟩
        refine wpM_norm (fun K hK => ?_); go_simp; refine hK _ ?_; clear hK K
        refine wpM_x _ rfl (fun w' hw' hk => ?_) ?_
        · have hb : Bytes w' v33 (reqB ⟨c, t, ⟨k, a, o, n⟩⟩) := hk 33 (by decide)
          have hcv := run_string_of (P := Try.prog) hb Try.underlying31 Try.underlying5 Try.underlying9
          clear hk
          unfold makes
          go_simp
          exact ⟨Ext.refl _, rfl⟩
        refine wpM_norm (fun K hK => ?_); go_simp; refine hK _ ?_; clear hK K
        iterate 1 (refine wpM_p (fun K hK => ?_); go_simp; first | refine hK _ ?_ | refine ⟨(fun h => by cases h), hK _ ?_⟩; clear hK K)
        iterate 2 (refine wpM_p (fun K hK => ?_); go_simp; first | refine hK _ ?_ | refine ⟨(fun h => by cases h), hK _ ?_⟩; clear hK K)
        refine wpM_q (AN ⟨c2, t2, ⟨x, m⟩⟩) rfl (fun w' hw' => by have q0 := hw'.cell z0; have q1 := hw'.cell z1; have q2 := hw'.cell z2; have q3 := hw'.cell z3; go_simp) ?_
        refine wpM_norm (fun K hK => ?_); go_simp; refine hK _ ?_; clear hK K
        refine wpM_x _ rfl (fun w' hw' hk => ?_) ?_
        · have hg := gives_exts (h4 w')
          clear hk
          unfold makes
          go_simp
          exact ⟨Ext.refl _, hg⟩
        refine wpM_norm (fun K hK => ?_); go_simp; refine hK _ ?_; clear hK K
        iterate 2 (refine wpM_p (fun K hK => ?_); go_simp; first | refine hK _ ?_ | refine ⟨(fun h => by cases h), hK _ ?_⟩; clear hK K)
        refine wpM_q (AN ⟨c2, t2, ⟨x, m⟩⟩) rfl (fun w' hw' => by have q0 := hw'.cell z0; have q1 := hw'.cell z1; have q2 := hw'.cell z2; have q3 := hw'.cell z3; go_simp) ?_
        refine wpM_norm (fun K hK => ?_); go_simp; refine hK _ ?_; clear hK K
        refine wpM_l _ rfl (fun w' hw' hk => ?_) (fun v43 => ?_)
        · have hg := Answer_bytes c2 t2 x m w'
          clear hk
          unfold makes
          go_simp
          exact ⟨Ext.refl _, hg⟩
        refine wpM_norm (fun K hK => ?_); go_simp; refine hK _ ?_; clear hK K
        refine wpM_x _ rfl (fun w' hw' hk => ?_) ?_
        · have hb : Bytes w' v43 (ansB ⟨c2, t2, ⟨x, m⟩⟩) := hk 43 (by decide)
          have hcv := run_string_of (P := Try.prog) hb Try.underlying31 Try.underlying5 Try.underlying9
          clear hk
          unfold makes
          go_simp
          exact ⟨Ext.refl _, rfl⟩
        refine wpM_norm (fun K hK => ?_); go_simp; refine hK _ ?_; clear hK K
        refine wpM_q (AN ⟨c2, t2, ⟨x, m⟩⟩) rfl (fun w' hw' => by have q0 := hw'.cell z0; have q1 := hw'.cell z1; have q2 := hw'.cell z2; have q3 := hw'.cell z3; go_simp) ?_
        refine wpM_norm (fun K hK => ?_); go_simp; refine hK _ ?_; clear hK K
        refine wpM_l _ rfl (fun w' hw' hk => ?_) (fun v46 => ?_)
        · have hg := AnswerBytes_any c2 t2 x m w'
          clear hk
          unfold makes
          go_simp
          exact ⟨Ext.refl _, hg⟩
        refine wpM_norm (fun K hK => ?_); go_simp; refine hK _ ?_; clear hK K
        refine wpM_x _ rfl (fun w' hw' hk => ?_) ?_
        · have hb : Bytes w' v46 (ansB ⟨c2, t2, ⟨x, m⟩⟩) := hk 46 (by decide)
          have hcv := run_string_of (P := Try.prog) hb Try.underlying31 Try.underlying5 Try.underlying9
          clear hk
          unfold makes
          go_simp
          exact ⟨Ext.refl _, rfl⟩
        refine wpM_norm (fun K hK => ?_); go_simp; refine hK _ ?_; clear hK K
        iterate 1 (refine wpM_p (fun K hK => ?_); go_simp; first | refine hK _ ?_ | refine ⟨(fun h => by cases h), hK _ ?_⟩; clear hK K)
        iterate 2 (refine wpM_p (fun K hK => ?_); go_simp; first | refine hK _ ?_ | refine ⟨(fun h => by cases h), hK _ ?_⟩; clear hK K)
        refine wpM_nil ?_
        intro w3 he3 _
        go_wp2_with fail
        go_meet
        case rel => exact ⟨rfl, e2.trans he3⟩

      · have hb2 : (W2 == 0) = false := by simpa using hz2
        clear hz2
        go_wp2_with fail
        refine wp_region_mono [none, some (.inl (I 0)), none, none, none, some (.inr fun v wx => Bytes wx v (reqB ⟨c, t, ⟨k, a, o, n⟩⟩)), some (.inl (.string ⟨(reqB ⟨c, t, ⟨k, a, o, n⟩⟩).toArray⟩)), none, some (.inr fun v wx => Bytes wx v (reqB ⟨c, t, ⟨k, a, o, n⟩⟩)), some (.inl (.string ⟨(reqB ⟨c, t, ⟨k, a, o, n⟩⟩).toArray⟩)), none, none, none, none, some (.inl (I W2)), none, none, none, none, none, none, none, none, none, none, none] (by kernel_rfl) (by kernel_rfl) ?_ ?_
        · exact ⟨trivial, trivial, trivial, trivial, trivial, monoBytes _, trivial, trivial, monoBytes _, trivial, trivial, trivial, trivial, trivial, trivial, trivial, trivial, trivial, trivial, trivial, trivial, trivial, trivial, trivial, trivial, trivial, trivial⟩
        refine wpM_q (RQ ⟨c, t, ⟨k, a, o, n⟩⟩) rfl (fun w' hw' => by have q0 := hw'.cell y0; have q1 := hw'.cell y1; have q2 := hw'.cell y2; have q3 := hw'.cell y3; have q4 := hw'.cell y4; have q5 := hw'.cell y5; go_simp) ?_
        refine wpM_norm (fun K hK => ?_); go_simp; refine hK _ ?_; clear hK K
        refine wpM_x _ rfl (fun w' hw' hk => ?_) ?_
        · have hg := gives_exts (h2 w')
          clear hk
          unfold makes
          go_simp
          exact ⟨Ext.refl _, hg⟩
        refine wpM_norm (fun K hK => ?_); go_simp; refine hK _ ?_; clear hK K
        iterate 2 (refine wpM_p (fun K hK => ?_); go_simp; first | refine hK _ ?_ | refine ⟨(fun h => by cases h), hK _ ?_⟩; clear hK K)
        refine wpM_q (RQ ⟨c, t, ⟨k, a, o, n⟩⟩) rfl (fun w' hw' => by have q0 := hw'.cell y0; have q1 := hw'.cell y1; have q2 := hw'.cell y2; have q3 := hw'.cell y3; have q4 := hw'.cell y4; have q5 := hw'.cell y5; go_simp) ?_
        refine wpM_norm (fun K hK => ?_); go_simp; refine hK _ ?_; clear hK K
        refine wpM_l _ rfl (fun w' hw' hk => ?_) (fun v30 => ?_)
        · have hg := Request_bytes c t k a o n w'
          clear hk
          unfold makes
          go_simp
          exact ⟨Ext.refl _, hg⟩
        refine wpM_norm (fun K hK => ?_); go_simp; refine hK _ ?_; clear hK K
        refine wpM_x _ rfl (fun w' hw' hk => ?_) ?_
        · have hb : Bytes w' v30 (reqB ⟨c, t, ⟨k, a, o, n⟩⟩) := hk 30 (by decide)
          have hcv := run_string_of (P := Try.prog) hb Try.underlying31 Try.underlying5 Try.underlying9
          clear hk
          unfold makes
          go_simp
          exact ⟨Ext.refl _, rfl⟩
        refine wpM_norm (fun K hK => ?_); go_simp; refine hK _ ?_; clear hK K
        refine wpM_q (RQ ⟨c, t, ⟨k, a, o, n⟩⟩) rfl (fun w' hw' => by have q0 := hw'.cell y0; have q1 := hw'.cell y1; have q2 := hw'.cell y2; have q3 := hw'.cell y3; have q4 := hw'.cell y4; have q5 := hw'.cell y5; go_simp) ?_
        refine wpM_norm (fun K hK => ?_); go_simp; refine hK _ ?_; clear hK K
        refine wpM_l _ rfl (fun w' hw' hk => ?_) (fun v33 => ?_)
        · have hg := RequestBytes_any c t k a o n w'
          clear hk
          unfold makes
          go_simp
          exact ⟨Ext.refl _, hg⟩
        refine wpM_norm (fun K hK => ?_); go_simp; refine hK _ ?_; clear hK K
        refine wpM_x _ rfl (fun w' hw' hk => ?_) ?_
        · have hb : Bytes w' v33 (reqB ⟨c, t, ⟨k, a, o, n⟩⟩) := hk 33 (by decide)
          have hcv := run_string_of (P := Try.prog) hb Try.underlying31 Try.underlying5 Try.underlying9
          clear hk
          unfold makes
          go_simp
          exact ⟨Ext.refl _, rfl⟩
        refine wpM_norm (fun K hK => ?_); go_simp; refine hK _ ?_; clear hK K
        iterate 1 (refine wpM_p (fun K hK => ?_); go_simp; first | refine hK _ ?_ | refine ⟨(fun h => by cases h), hK _ ?_⟩; clear hK K)
        iterate 2 (refine wpM_p (fun K hK => ?_); go_simp; first | refine hK _ ?_ | refine ⟨(fun h => by cases h), hK _ ?_⟩; clear hK K)
        refine wpM_q (AN ⟨c2, t2, ⟨x, m⟩⟩) rfl (fun w' hw' => by have q0 := hw'.cell z0; have q1 := hw'.cell z1; have q2 := hw'.cell z2; have q3 := hw'.cell z3; go_simp) ?_
        refine wpM_norm (fun K hK => ?_); go_simp; refine hK _ ?_; clear hK K
        refine wpM_x _ rfl (fun w' hw' hk => ?_) ?_
        · have hg := gives_exts (h4 w')
          clear hk
          unfold makes
          go_simp
          exact ⟨Ext.refl _, hg⟩
        refine wpM_norm (fun K hK => ?_); go_simp; refine hK _ ?_; clear hK K
        iterate 2 (refine wpM_p (fun K hK => ?_); go_simp; first | refine hK _ ?_ | refine ⟨(fun h => by cases h), hK _ ?_⟩; clear hK K)
        iterate 7 (refine wpM_p (fun K hK => ?_); go_simp; first | refine hK _ ?_ | refine ⟨(fun h => by cases h), hK _ ?_⟩; clear hK K)
        iterate 2 (refine wpM_p (fun K hK => ?_); go_simp; first | refine hK _ ?_ | refine ⟨(fun h => by cases h), hK _ ?_⟩; clear hK K)
        refine wpM_nil ?_
        intro w3 he3 _
        go_wp2_with fail
        go_meet
        case rel => exact ⟨rfl, e2.trans he3⟩

    · have hb1 : (W1 == 0) = false := by simpa using hz1
      clear hz1
      by_cases hz2 : W2 = 0
      · subst hz2
        go_wp2_with fail
        refine wp_region_mono [none, some (.inl (I W1)), none, none, none, none, none, none, none, none, none, none, none, none, some (.inl (I 0)), none, none, none, some (.inr fun v wx => Bytes wx v (ansB ⟨c2, t2, ⟨x, m⟩⟩)), some (.inl (.string ⟨(ansB ⟨c2, t2, ⟨x, m⟩⟩).toArray⟩)), none, some (.inr fun v wx => Bytes wx v (ansB ⟨c2, t2, ⟨x, m⟩⟩)), some (.inl (.string ⟨(ansB ⟨c2, t2, ⟨x, m⟩⟩).toArray⟩)), none, none, none] (by kernel_rfl) (by kernel_rfl) ?_ ?_
        · exact ⟨trivial, trivial, trivial, trivial, trivial, trivial, trivial, trivial, trivial, trivial, trivial, trivial, trivial, trivial, trivial, trivial, trivial, trivial, monoBytes _, trivial, trivial, monoBytes _, trivial, trivial, trivial, trivial, trivial⟩
        refine wpM_q (RQ ⟨c, t, ⟨k, a, o, n⟩⟩) rfl (fun w' hw' => by have q0 := hw'.cell y0; have q1 := hw'.cell y1; have q2 := hw'.cell y2; have q3 := hw'.cell y3; have q4 := hw'.cell y4; have q5 := hw'.cell y5; go_simp) ?_
        refine wpM_norm (fun K hK => ?_); go_simp; refine hK _ ?_; clear hK K
        refine wpM_x _ rfl (fun w' hw' hk => ?_) ?_
        · have hg := gives_exts (h2 w')
          clear hk
          unfold makes
          go_simp
          exact ⟨Ext.refl _, hg⟩
        refine wpM_norm (fun K hK => ?_); go_simp; refine hK _ ?_; clear hK K
        iterate 2 (refine wpM_p (fun K hK => ?_); go_simp; first | refine hK _ ?_ | refine ⟨(fun h => by cases h), hK _ ?_⟩; clear hK K)
        iterate 7 (refine wpM_p (fun K hK => ?_); go_simp; first | refine hK _ ?_ | refine ⟨(fun h => by cases h), hK _ ?_⟩; clear hK K)
        iterate 2 (refine wpM_p (fun K hK => ?_); go_simp; first | refine hK _ ?_ | refine ⟨(fun h => by cases h), hK _ ?_⟩; clear hK K)
        refine wpM_q (AN ⟨c2, t2, ⟨x, m⟩⟩) rfl (fun w' hw' => by have q0 := hw'.cell z0; have q1 := hw'.cell z1; have q2 := hw'.cell z2; have q3 := hw'.cell z3; go_simp) ?_
        refine wpM_norm (fun K hK => ?_); go_simp; refine hK _ ?_; clear hK K
        refine wpM_x _ rfl (fun w' hw' hk => ?_) ?_
        · have hg := gives_exts (h4 w')
          clear hk
          unfold makes
          go_simp
          exact ⟨Ext.refl _, hg⟩
        refine wpM_norm (fun K hK => ?_); go_simp; refine hK _ ?_; clear hK K
        iterate 2 (refine wpM_p (fun K hK => ?_); go_simp; first | refine hK _ ?_ | refine ⟨(fun h => by cases h), hK _ ?_⟩; clear hK K)
        refine wpM_q (AN ⟨c2, t2, ⟨x, m⟩⟩) rfl (fun w' hw' => by have q0 := hw'.cell z0; have q1 := hw'.cell z1; have q2 := hw'.cell z2; have q3 := hw'.cell z3; go_simp) ?_
        refine wpM_norm (fun K hK => ?_); go_simp; refine hK _ ?_; clear hK K
        refine wpM_l _ rfl (fun w' hw' hk => ?_) (fun v43 => ?_)
        · have hg := Answer_bytes c2 t2 x m w'
          clear hk
          unfold makes
          go_simp
          exact ⟨Ext.refl _, hg⟩
        refine wpM_norm (fun K hK => ?_); go_simp; refine hK _ ?_; clear hK K
        refine wpM_x _ rfl (fun w' hw' hk => ?_) ?_
        · have hb : Bytes w' v43 (ansB ⟨c2, t2, ⟨x, m⟩⟩) := hk 43 (by decide)
          have hcv := run_string_of (P := Try.prog) hb Try.underlying31 Try.underlying5 Try.underlying9
          clear hk
          unfold makes
          go_simp
          exact ⟨Ext.refl _, rfl⟩
        refine wpM_norm (fun K hK => ?_); go_simp; refine hK _ ?_; clear hK K
        refine wpM_q (AN ⟨c2, t2, ⟨x, m⟩⟩) rfl (fun w' hw' => by have q0 := hw'.cell z0; have q1 := hw'.cell z1; have q2 := hw'.cell z2; have q3 := hw'.cell z3; go_simp) ?_
        refine wpM_norm (fun K hK => ?_); go_simp; refine hK _ ?_; clear hK K
        refine wpM_l _ rfl (fun w' hw' hk => ?_) (fun v46 => ?_)
        · have hg := AnswerBytes_any c2 t2 x m w'
          clear hk
          unfold makes
          go_simp
          exact ⟨Ext.refl _, hg⟩
        refine wpM_norm (fun K hK => ?_); go_simp; refine hK _ ?_; clear hK K
        refine wpM_x _ rfl (fun w' hw' hk => ?_) ?_
        · have hb : Bytes w' v46 (ansB ⟨c2, t2, ⟨x, m⟩⟩) := hk 46 (by decide)
          have hcv := run_string_of (P := Try.prog) hb Try.underlying31 Try.underlying5 Try.underlying9
          clear hk
          unfold makes
          go_simp
          exact ⟨Ext.refl _, rfl⟩
        refine wpM_norm (fun K hK => ?_); go_simp; refine hK _ ?_; clear hK K
        iterate 1 (refine wpM_p (fun K hK => ?_); go_simp; first | refine hK _ ?_ | refine ⟨(fun h => by cases h), hK _ ?_⟩; clear hK K)
        iterate 2 (refine wpM_p (fun K hK => ?_); go_simp; first | refine hK _ ?_ | refine ⟨(fun h => by cases h), hK _ ?_⟩; clear hK K)
        refine wpM_nil ?_
        intro w3 he3 _
        go_wp2_with fail
        go_meet
        case rel => exact ⟨rfl, e2.trans he3⟩

      · have hb2 : (W2 == 0) = false := by simpa using hz2
        clear hz2
        go_wp2_with fail
        refine wp_region_mono [none, some (.inl (I W1)), none, none, none, none, none, none, none, none, none, none, none, none, some (.inl (I W2)), none, none, none, none, none, none, none, none, none, none, none] (by kernel_rfl) (by kernel_rfl) ?_ ?_
        · exact ⟨trivial, trivial, trivial, trivial, trivial, trivial, trivial, trivial, trivial, trivial, trivial, trivial, trivial, trivial, trivial, trivial, trivial, trivial, trivial, trivial, trivial, trivial, trivial, trivial, trivial, trivial, trivial⟩
        refine wpM_q (RQ ⟨c, t, ⟨k, a, o, n⟩⟩) rfl (fun w' hw' => by have q0 := hw'.cell y0; have q1 := hw'.cell y1; have q2 := hw'.cell y2; have q3 := hw'.cell y3; have q4 := hw'.cell y4; have q5 := hw'.cell y5; go_simp) ?_
        refine wpM_norm (fun K hK => ?_); go_simp; refine hK _ ?_; clear hK K
        refine wpM_x _ rfl (fun w' hw' hk => ?_) ?_
        · have hg := gives_exts (h2 w')
          clear hk
          unfold makes
          go_simp
          exact ⟨Ext.refl _, hg⟩
        refine wpM_norm (fun K hK => ?_); go_simp; refine hK _ ?_; clear hK K
        iterate 2 (refine wpM_p (fun K hK => ?_); go_simp; first | refine hK _ ?_ | refine ⟨(fun h => by cases h), hK _ ?_⟩; clear hK K)
        iterate 7 (refine wpM_p (fun K hK => ?_); go_simp; first | refine hK _ ?_ | refine ⟨(fun h => by cases h), hK _ ?_⟩; clear hK K)
        iterate 2 (refine wpM_p (fun K hK => ?_); go_simp; first | refine hK _ ?_ | refine ⟨(fun h => by cases h), hK _ ?_⟩; clear hK K)
        refine wpM_q (AN ⟨c2, t2, ⟨x, m⟩⟩) rfl (fun w' hw' => by have q0 := hw'.cell z0; have q1 := hw'.cell z1; have q2 := hw'.cell z2; have q3 := hw'.cell z3; go_simp) ?_
        refine wpM_norm (fun K hK => ?_); go_simp; refine hK _ ?_; clear hK K
        refine wpM_x _ rfl (fun w' hw' hk => ?_) ?_
        · have hg := gives_exts (h4 w')
          clear hk
          unfold makes
          go_simp
          exact ⟨Ext.refl _, hg⟩
        refine wpM_norm (fun K hK => ?_); go_simp; refine hK _ ?_; clear hK K
        iterate 2 (refine wpM_p (fun K hK => ?_); go_simp; first | refine hK _ ?_ | refine ⟨(fun h => by cases h), hK _ ?_⟩; clear hK K)
        iterate 7 (refine wpM_p (fun K hK => ?_); go_simp; first | refine hK _ ?_ | refine ⟨(fun h => by cases h), hK _ ?_⟩; clear hK K)
        iterate 2 (refine wpM_p (fun K hK => ?_); go_simp; first | refine hK _ ?_ | refine ⟨(fun h => by cases h), hK _ ?_⟩; clear hK K)
        refine wpM_nil ?_
        intro w3 he3 _
        go_wp2_with fail
        go_meet
        case rel => exact ⟨rfl, e2.trans he3⟩

  case rest =>
    rename World => w3
    obtain ⟨rfl, e3⟩ := hcut
    have m3 : Ext w w3 := m0.trans e3
    clear e2 e3 HB HW0 m0 h2 h4
    have a1 := fun wx (h : Ext w wx) => ReadRequest_any v bs wx (HV.out.ext h)
    have a2 := fun wx (h : Ext w wx) => refReadRequest_any v bs wx (HV.out.ext h)
    have a3 := fun wx (h : Ext w wx) => ReadAnswer_any v bs wx (HV.out.ext h)
    have a4 := fun wx (h : Ext w wx) => refReadAnswer_any v bs wx (HV.out.ext h)
    generalize readRq bs = PR at *
    generalize readAn bs = PA at *
    obtain ⟨⟨rc, rt, ⟨rk, ra, ro, rn⟩⟩, re⟩ := PR
    obtain ⟨⟨ac, at_, ⟨ax, am⟩⟩, ae⟩ := PA
    simp only [] at a1 a2 a3 a4
    go_wp2_with fail
    refine Calls.exts (a1 _ m3) (fun w4 e4 => ?_)
    have m4 := (m3.trans e4).alloc (.cells #[I rc, I rt, I rk, I ra, I ro, I rn] 25)
    have b4 := heap_alloc_new w4 (.cells #[I rc, I rt, I rk, I ra, I ro, I rn] 25)
    clear m3 e4
    go_wp2_with fail
    generalize w4.heap.size = s4 at *
    refine Calls.exts (a2 _ m4) (fun w5 e5 => ?_)
    have m5 := m4.trans (e5.alloc (.cells #[I rc, I rt, I rk, I ra, I ro, I rn] 25))
    replace b4 := block_of b4 (e5.alloc (.cells #[I rc, I rt, I rk, I ra, I ro, I rn] 25))
    clear m4 e5
    obtain ⟨⟨y0, y1, y2, y3, y4, y5⟩, -⟩ := box6 b4
    clear b4
    go_wp2_with fail
    clear y0 y1 y2 y3 y4 y5
    refine Calls.exts (a3 _ m5) (fun w6 e6 => ?_)
    have m6 := (m5.trans e6).alloc (.cells #[I ac, I at_, I ax, I am] 30)
    have b6 := heap_alloc_new w6 (.cells #[I ac, I at_, I ax, I am] 30)
    clear m5 e6
    go_wp2_with fail
    generalize w6.heap.size = s6 at *
    refine Calls.exts (a4 _ m6) (fun w7 e7 => ?_)
    have m7 := m6.trans (e7.alloc (.cells #[I ac, I at_, I ax, I am] 30))
    replace b6 := block_of b6 (e7.alloc (.cells #[I ac, I at_, I ax, I am] 30))
    clear m6 e7
    obtain ⟨y0, y1, y2, y3, -⟩ := box4 b6
    clear b6
    go_wp2
    go_ret
    exact ⟨rfl, m7⟩

end Go.Proofs.Ytdmipnnfoolelac

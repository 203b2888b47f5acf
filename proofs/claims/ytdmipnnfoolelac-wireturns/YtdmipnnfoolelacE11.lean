/- Walks: the law WireTurns. -/
import Derived.Test.YtdmipnnfoolelacE10
import Derived.Deep.DeepCutAuto
namespace Go.Proofs.Ytdmipnnfoolelac
open Go.RowKit Go.Mk

set_option maxRecDepth 100000 in
set_option maxHeartbeats 4000000 in
theorem WireTurns_any (v : Value) (c t k a o n c2 t2 x m : Int) (l : List UInt8) (w : World) (hv : Bytes w v l) :
    Gives Try.prog 5 #[RQ ⟨c, t, ⟨k, a, o, n⟩⟩, AN ⟨c2, t2, ⟨x, m⟩⟩, v] w fun r _ => r = .bool true := by
  refine gives_exts ?_
  have hst : Try.prog.stoodInHeld 25 = false := by kernel_rfl
  have hgd : Try.prog.eqGuardType Try.prog.depth 25 = false := by kernel_rfl
  have hst2 : Try.prog.stoodInHeld 30 = false := by kernel_rfl
  have hgd2 : Try.prog.eqGuardType Try.prog.depth 30 = false := by kernel_rfl
  have m0 : Ext w ((w.alloc (.cells #[I c, I t, I k, I a, I o, I n] 25)).alloc (.cells #[I c2, I t2, I x, I m] 30)) := ((Ext.refl w).alloc _).alloc _
  have HB : Hid (∀ wx, Ext ((w.alloc (.cells #[I c, I t, I k, I a, I o, I n] 25)).alloc (.cells #[I c2, I t2, I x, I m] 30)) wx → wx.heap[w.heap.size]? = some (.cells #[I c, I t, I k, I a, I o, I n] 25 (0, 0)) ∧ wx.heap[w.heap.size + 1]? = some (.cells #[I c2, I t2, I x, I m] 30 (0, 0))) := fun wx hx => ⟨first_block hx, second_block hx⟩
  have HV := Lib.hid hv
  clear hv
  go_enter Try.func5, Try.ntmps5
  go_wp2_with fail
  generalize hw0 : (w.alloc (.cells #[I c, I t, I k, I a, I o, I n] 25)).alloc (.cells #[I c2, I t2, I x, I m] 30) = w0 at *
  have HW0 := Lib.hid hw0
  clear hw0
  refine Calls.exts (alive5_any _) (fun w1 e1 => ?_)
  obtain ⟨k1, k2⟩ := HB.out w1 e1
  obtain ⟨⟨y0, y1, y2, y3, y4, y5⟩, -⟩ := box6 k1
  go_wp2_with fail
  refine Calls.exts (WrongRequest_any c t k a o n _) (fun w2 e2 => ?_)
  replace e2 := e1.trans e2
  clear e1 y0 y1 y2 y3 y4 y5 k1 k2
  go_upto_if 19 with fail
  go_cut [7, 8] (fun _ _ wc => Ext w0 wc)
  case first =>
    by_cases hz : wrongRq ⟨c, t, ⟨k, a, o, n⟩⟩ = 0
    · have HR := Lib.hid (readRq_req hz)
      rw [hz]
      clear hz
      obtain ⟨k1, k2⟩ := HB.out w2 e2
      obtain ⟨⟨y0, y1, y2, y3, y4, y5⟩, -⟩ := box6 k1
      go_wp2_with fail
      clear y0 y1 y2 y3 y4 y5 k1 k2
      refine (Request_bytes c t k a o n _).to fun v3 w3 e3 h3 => ?_
      go_wp2_with fail
      refine Calls.exts (ReadRequest_any v3 _ w3 h3) (fun w4 e4 => ?_)
      rw [HR.out]
      replace e4 := (e2.trans (e3.trans e4)).alloc (.cells #[I c, I t, I k, I a, I o, I n] 25)
      clear e3 h3
      obtain ⟨k1, k2⟩ := HB.out _ e4
      obtain ⟨⟨y0, y1, y2, y3, y4, y5⟩, -⟩ := box6 k1
      clear k1 k2
      go_wp2_with fail
      go_meet
      case rel => exact e4
    · have hb : (wrongRq ⟨c, t, ⟨k, a, o, n⟩⟩ == 0) = false := by simpa using hz
      clear hz
      go_wp2_with fail
      go_meet
      case rel => exact e2
  case rest =>
    rename World => w5
    have e5 : Ext w0 w5 := hcut
    clear hcut e2 w2 w1
    obtain ⟨k1, k2⟩ := HB.out w5 e5
    obtain ⟨y0, y1, y2, y3, -⟩ := box4 k2
    go_wp2_with fail
    refine Calls.exts (WrongAnswer_any c2 t2 x m _) (fun w6 e6 => ?_)
    replace e6 := e5.trans e6
    clear e5 y0 y1 y2 y3 k1 k2
    go_upto_if 35 with fail
    go_cut [9, 10] (fun _ _ wc => Ext w0 wc)
    case first =>
      by_cases hz : wrongAn ⟨c2, t2, ⟨x, m⟩⟩ = 0
      · have HR := Lib.hid (readAn_ans hz)
        rw [hz]
        clear hz
        obtain ⟨k1, k2⟩ := HB.out w6 e6
        obtain ⟨y0, y1, y2, y3, -⟩ := box4 k2
        go_wp2_with fail
        clear y0 y1 y2 y3 k1 k2
        refine (Answer_bytes c2 t2 x m _).to fun v3 w3 e3 h3 => ?_
        go_wp2_with fail
        refine Calls.exts (ReadAnswer_any v3 _ w3 h3) (fun w4 e4 => ?_)
        rw [HR.out]
        replace e4 := (e6.trans (e3.trans e4)).alloc (.cells #[I c2, I t2, I x, I m] 30)
        clear e3 h3
        obtain ⟨k1, k2⟩ := HB.out _ e4
        obtain ⟨y0, y1, y2, y3, -⟩ := box4 k2
        clear k1 k2
        go_wp2_with fail
        go_meet
        case rel => exact e4
      · have hb : (wrongAn ⟨c2, t2, ⟨x, m⟩⟩ == 0) = false := by simpa using hz
        clear hz
        go_wp2_with fail
        go_meet
        case rel => exact e6
    case rest =>
      rename World => w7
      have e7 : Ext w w7 := m0.trans hcut
      clear hcut e6 w6 w5 m0 HB HW0 w0 hst hgd hst2 hgd2
      go_wp2_with fail
      refine Calls.exts (ReadRequest_any v l w7 (HV.out.ext e7)) (fun w8 e8 => ?_)
      have hRA := fun wx (h : Ext w wx) => ReadAnswer_any v l wx (HV.out.ext h)
      have hR := @req_readRq l
      have hA := @ans_readAn l
      have hN := not_both l
      generalize readRq l = PR at *
      generalize readAn l = PA at *
      obtain ⟨⟨rc, rt, ⟨rk, ra, ro, rn⟩⟩, re⟩ := PR
      obtain ⟨⟨ac, at_, ⟨ax, am⟩⟩, ae⟩ := PA
      simp only [] at hN hRA
      have m8 := (e7.trans e8).alloc (.cells #[I rc, I rt, I rk, I ra, I ro, I rn] 25)
      have hq8 := heap_alloc_new w8 (.cells #[I rc, I rt, I rk, I ra, I ro, I rn] 25)
      clear e8
      go_wp2_with fail
      refine Calls.exts (hRA _ m8) (fun w9 e9 => ?_)
      have m9 := m8.trans (e9.alloc (.cells #[I ac, I at_, I ax, I am] 30))
      have hq := block_of hq8 (e9.alloc (.cells #[I ac, I at_, I ax, I am] 30))
      have ha := heap_alloc_new w9 (.cells #[I ac, I at_, I ax, I am] 30)
      clear hRA e9 hq8 m8 e7
      go_wp2_with fail
      generalize hw10 : w9.alloc (.cells #[I ac, I at_, I ax, I am] 30) = w10 at *
      clear hw10
      have HBV := Lib.hid (fun wx (h : Ext w10 wx) => HV.out.ext (m9.trans h))
      by_cases h0 : re = 0
      · subst h0
        have hae : ¬ ae = 0 := by simpa using hN
        have hab : (ae != 0) = true := by simpa using hae
        obtain ⟨hl, -⟩ := hR rfl
        have HL := Lib.hid hl
        clear hl hR hA hN hae
        obtain ⟨⟨y0, y1, y2, y3, y4, y5⟩, -⟩ := box6 hq
        clear hq ha
        refine wp_region_mono [none, none, none, none, none, none, none, none, none, none, none, some (.inr fun v wx => Bytes wx v (l)), some (.inl (.string ⟨l.toArray⟩)), none, some (.inl (.string ⟨l.toArray⟩)), none, none, none, none, none, none, none, none, none, none, none, none, none, none, none, none] (by kernel_rfl) (by kernel_rfl) ?_ ?_
        · exact ⟨trivial, trivial, trivial, trivial, trivial, trivial, trivial, trivial, trivial, trivial, trivial, monoBytes _, trivial, trivial, trivial, trivial, trivial, trivial, trivial, trivial, trivial, trivial, trivial, trivial, trivial, trivial, trivial, trivial, trivial, trivial, trivial, trivial⟩
        iterate 10 (refine wpM_p (fun K hK => ?_); go_simp; first | refine hK _ ?_ | refine ⟨(fun h => by cases h), hK _ ?_⟩; clear hK K)
        refine wpM_q (RQ ⟨rc, rt, ⟨rk, ra, ro, rn⟩⟩) rfl (fun w' hw' => by have q0 := hw'.cell y0; have q1 := hw'.cell y1; have q2 := hw'.cell y2; have q3 := hw'.cell y3; have q4 := hw'.cell y4; have q5 := hw'.cell y5; go_simp) ?_
        refine wpM_norm (fun K hK => ?_); go_simp; refine hK _ ?_; clear hK K
        refine wpM_l _ rfl (fun w' hw' hk => ?_) (fun v70 => ?_)
        · have hg := Request_bytes rc rt rk ra ro rn w'
          rw [HL.out] at hg
          clear hk
          unfold makes
          go_simp
          exact ⟨Ext.refl _, hg⟩
        refine wpM_norm (fun K hK => ?_); go_simp; refine hK _ ?_; clear hK K
        refine wpM_x _ rfl (fun w' hw' hk => ?_) ?_
        · have h70 : Bytes w' v70 l := hk 70 (by decide)
          have hcv := run_string_of (P := Try.prog) h70 Try.underlying31 Try.underlying5 Try.underlying9
          clear hk
          unfold makes
          go_simp
          exact ⟨Ext.refl _, rfl⟩
        refine wpM_norm (fun K hK => ?_); go_simp; refine hK _ ?_; clear hK K
        iterate 1 (refine wpM_p (fun K hK => ?_); go_simp; first | refine hK _ ?_ | refine ⟨(fun h => by cases h), hK _ ?_⟩; clear hK K)
        refine wpM_x _ rfl (fun w' hw' hk => ?_) ?_
        · have hcv := run_string_of (P := Try.prog) (HBV.out w' hw') Try.underlying31 Try.underlying5 Try.underlying9
          clear hk
          unfold makes
          go_simp
          exact ⟨Ext.refl _, rfl⟩
        refine wpM_norm (fun K hK => ?_); go_simp; refine hK _ ?_; clear hK K
        iterate 16 (refine wpM_p (fun K hK => ?_); go_simp; first | refine hK _ ?_ | refine ⟨(fun h => by cases h), hK _ ?_⟩; clear hK K)
        refine wpM_nil ?_
        intro w11 he11 _
        go_wp2
        go_ret
        exact ⟨rfl, m9.trans he11⟩
      have hrb : (re != 0) = true := by simpa using h0
      by_cases h1 : ae = 0
      · subst h1
        obtain ⟨hl, -⟩ := hA rfl
        have HL := Lib.hid hl
        clear hl hR hA hN h0
        obtain ⟨y0, y1, y2, y3, -⟩ := box4 ha
        clear hq ha
        refine wp_region_mono [none, none, none, none, none, none, none, none, none, none, none, none, none, none, none, none, none, none, none, none, none, none, none, some (.inr fun v wx => Bytes wx v (l)), some (.inl (.string ⟨l.toArray⟩)), none, some (.inl (.string ⟨l.toArray⟩)), none, none, none, none] (by kernel_rfl) (by kernel_rfl) ?_ ?_
        · exact ⟨trivial, trivial, trivial, trivial, trivial, trivial, trivial, trivial, trivial, trivial, trivial, trivial, trivial, trivial, trivial, trivial, trivial, trivial, trivial, trivial, trivial, trivial, trivial, monoBytes _, trivial, trivial, trivial, trivial, trivial, trivial, trivial, trivial⟩
        iterate 22 (refine wpM_p (fun K hK => ?_); go_simp; first | refine hK _ ?_ | refine ⟨(fun h => by cases h), hK _ ?_⟩; clear hK K)
        refine wpM_q (AN ⟨ac, at_, ⟨ax, am⟩⟩) rfl (fun w' hw' => by have q0 := hw'.cell y0; have q1 := hw'.cell y1; have q2 := hw'.cell y2; have q3 := hw'.cell y3; go_simp) ?_
        refine wpM_norm (fun K hK => ?_); go_simp; refine hK _ ?_; clear hK K
        refine wpM_l _ rfl (fun w' hw' hk => ?_) (fun v82 => ?_)
        · have hg := Answer_bytes ac at_ ax am w'
          rw [HL.out] at hg
          clear hk
          unfold makes
          go_simp
          exact ⟨Ext.refl _, hg⟩
        refine wpM_norm (fun K hK => ?_); go_simp; refine hK _ ?_; clear hK K
        refine wpM_x _ rfl (fun w' hw' hk => ?_) ?_
        · have h82 : Bytes w' v82 l := hk 82 (by decide)
          have hcv := run_string_of (P := Try.prog) h82 Try.underlying31 Try.underlying5 Try.underlying9
          clear hk
          unfold makes
          go_simp
          exact ⟨Ext.refl _, rfl⟩
        refine wpM_norm (fun K hK => ?_); go_simp; refine hK _ ?_; clear hK K
        iterate 1 (refine wpM_p (fun K hK => ?_); go_simp; first | refine hK _ ?_ | refine ⟨(fun h => by cases h), hK _ ?_⟩; clear hK K)
        refine wpM_x _ rfl (fun w' hw' hk => ?_) ?_
        · have hcv := run_string_of (P := Try.prog) (HBV.out w' hw') Try.underlying31 Try.underlying5 Try.underlying9
          clear hk
          unfold makes
          go_simp
          exact ⟨Ext.refl _, rfl⟩
        refine wpM_norm (fun K hK => ?_); go_simp; refine hK _ ?_; clear hK K
        iterate 4 (refine wpM_p (fun K hK => ?_); go_simp; first | refine hK _ ?_ | refine ⟨(fun h => by cases h), hK _ ?_⟩; clear hK K)
        refine wpM_nil ?_
        intro w11 he11 _
        go_wp2
        go_ret
        exact ⟨rfl, m9.trans he11⟩
      have hab : (ae != 0) = true := by simpa using h1
      clear hR hA hN h0 h1 hq ha
      refine wp_region_mono [none, none, none, none, none, none, none, none, none, none, none, none, none, none, none, none, none, none, none, none, none, none, none, none, none, none, none, none, none, none, none] (by kernel_rfl) (by kernel_rfl) ?_ ?_
      · exact ⟨trivial, trivial, trivial, trivial, trivial, trivial, trivial, trivial, trivial, trivial, trivial, trivial, trivial, trivial, trivial, trivial, trivial, trivial, trivial, trivial, trivial, trivial, trivial, trivial, trivial, trivial, trivial, trivial, trivial, trivial, trivial, trivial⟩
      iterate 31 (refine wpM_p (fun K hK => ?_); go_simp; first | refine hK _ ?_ | refine ⟨(fun h => by cases h), hK _ ?_⟩; clear hK K)
      refine wpM_nil ?_
      intro w11 he11 _
      go_wp2
      go_ret
      exact ⟨rfl, m9.trans he11⟩

end Go.Proofs.Ytdmipnnfoolelac

/- Walks: the law ModelTells. -/
import Derived.Test.YtdmipnnfoolelaaR7
import Derived.Test.YtdmipnnfoolelaaM10
import Derived.Test.YtdmipnnfoolelaaM1b
import Derived.Deep.DeepCutAuto
namespace Go.Proofs.Ytdmipnnfoolelaa
open Go.RowKit Go.Mk

set_option maxRecDepth 100000 in
set_option maxHeartbeats 2000000 in
theorem ModelTells_any (v pv cv : Value) (l : List (Int × Int)) (k a o n : Int) (q : List Rq) (xs : List Int) (w : World) (hv : Writes w v l) (hp : Reqs w pv q) (hc : Ints w cv xs) (_ : l.length * 16 ≤ 140737488355328) (hr : q.length * 48 ≤ 140737488355328) (_ : xs.length * 8 ≤ 140737488355328) :
    Gives Try.prog 6 #[v, .agg #[I k, I a, I o, I n], pv, cv] w fun r _ => r = .bool true := by
  refine gives_exts ?_
  obtain ⟨ao, cap, rfl, h1, h2, h3⟩ := hp.form
  unfold maxLen at h2
  have H3 : Hid _ := h3
  clear h3
  have e0 : Ext w (w.alloc (.cells #[I k, I a, I o, I n] 38)) := (Ext.refl w).alloc _
  have HC : Hid (∀ wx, Ext (w.alloc (.cells #[I k, I a, I o, I n] 38)) wx → wx.cell? ⟨w.heap.size, 0, none⟩ = some (I k) ∧ wx.cell? ⟨w.heap.size, 1, none⟩ = some (I a) ∧ wx.cell? ⟨w.heap.size, 2, none⟩ = some (I o) ∧ wx.cell? ⟨w.heap.size, 3, none⟩ = some (I n)) :=
    fun wx hx => ⟨hx.cell (cell_block (heap_alloc_new _ _) rfl), hx.cell (cell_block (heap_alloc_new _ _) rfl), hx.cell (cell_block (heap_alloc_new _ _) rfl), hx.cell (cell_block (heap_alloc_new _ _) rfl)⟩
  have hst : Try.prog.stoodInHeld 43 = false := by kernel_rfl
  have hgd : Try.prog.eqGuardType Try.prog.depth 43 = false := by kernel_rfl
  go_enter Try.func6, Try.ntmps6
  go_wp2_with fail
  refine wp_region_mono [none, some (.inl (I (wrongCl ⟨k, a, o, n⟩))), none, some (.inl (I (wrongCl ⟨k, a, o, n⟩))), none] (by kernel_rfl) (by kernel_rfl) ?_ ?_
  · exact ⟨trivial, trivial, trivial, trivial, trivial, trivial⟩
  refine wpM_q (.agg #[I k, I a, I o, I n]) rfl (fun w' hw' => by obtain ⟨d0, d1, d2, d3⟩ := HC.out w' hw'; go_simp) ?_
  refine wpM_x _ rfl (fun w' hw' _ => ?_) ?_
  · have hg := mWrong_any k a o n w'
    unfold makes
    go_simp
    exact ⟨Ext.refl _, hg⟩
  refine wpM_q (.agg #[I k, I a, I o, I n]) rfl (fun w' hw' => by obtain ⟨d0, d1, d2, d3⟩ := HC.out w' hw'; go_simp) ?_
  refine wpM_x _ rfl (fun w' hw' _ => ?_) ?_
  · have hg := gives_exts (refWrongCall_any k a o n w')
    unfold makes
    go_simp
    exact ⟨Ext.refl _, hg⟩
  iterate 1 (refine wpM_p (fun K hK => ?_); go_simp; refine hK _ ?_; clear hK K)
  refine wpM_nil ?_
  intro w1 he1 _
  have m1 := e0.trans he1
  go_upto_region 3 with fail
  go_cut [31] (fun s wc => (∃ c, s = .bool c ∧ (c = true → Okn l ∧ wrongCl ⟨k, a, o, n⟩ = 0)) ∧ Ext w1 wc)
  case first =>
    go_wp2_with fail
    refine (right_any v l w1 (hv.ext m1)).mono ?_
    rintro e w2 ⟨⟨b, rfl, hb⟩, e2⟩
    cases b
    · clear hb
      go_wp2_with fail
      go_meet
      case rel => exact ⟨⟨false, rfl, fun h => by cases h⟩, e2⟩
    · have hok : Hid (Okn l) := hb.1 rfl
      clear hb
      obtain ⟨d0, d1, d2, d3⟩ := HC.out w2 (he1.trans e2)
      go_wp2_with fail
      refine Calls.exts (refWrongCall_any k a o n w2) (fun w3 e3 => ?_)
      go_wp2_with fail
      go_meet
      case rel => exact ⟨⟨_, rfl, fun h => ⟨hok.out, by simpa using h⟩⟩, e2.trans e3⟩
  case rest =>
    obtain ⟨⟨c, rfl, hcc⟩, e2⟩ := hcut
    have HCC : Hid (c = true → Okn l ∧ wrongCl ⟨k, a, o, n⟩ = 0) := hcc
    clear hcc
    rename World => w2
    have m2 := m1.trans e2
    have HC2 : Hid (∀ wx, Ext w2 wx → wx.cell? ⟨w.heap.size, 0, none⟩ = some (I k) ∧ wx.cell? ⟨w.heap.size, 1, none⟩ = some (I a) ∧ wx.cell? ⟨w.heap.size, 2, none⟩ = some (I o) ∧ wx.cell? ⟨w.heap.size, 3, none⟩ = some (I n)) := fun wx hx => HC.out wx (he1.trans (e2.trans hx))
    clear HC e0 he1 m1 e2
    go_upto_if 31 with fail
    go_cut [9, 10, 11, 12] (fun _ _ _ _ wc => Ext w wc)
    case first =>
      cases c
      · clear HCC
        go_wp2_with fail
        go_meet
        case rel => exact m2
      · obtain ⟨hok, hwc⟩ := HCC.out rfl
        have HOK : Hid (Okn l) := hok
        have HWC : Hid (wrongCl ⟨k, a, o, n⟩ = 0) := hwc
        clear HCC hok hwc
        obtain ⟨d0, d1, d2, d3⟩ := HC2.out w2 (Ext.refl _)
        go_wp2_with fail
        refine (Do_any v l k a o n w2 (hv.ext m2) HOK.out HWC.out).mono ?_
        rintro e w3 ⟨r, rfl, e3, u, rfl, hu⟩
        have hu2 := hu.writes
        clear hu d0 d1 d2 d3
        generalize hD : doCl l ⟨k, a, o, n⟩ = D at *
        have HD : Hid (doCl l ⟨k, a, o, n⟩ = D) := hD
        clear hD
        obtain ⟨D1, D2, D3⟩ := D
        simp only [] at hu2
        have e4 : Ext w3 (w3.alloc (.cells #[I D2, I D3] 43)) := (Ext.refl w3).alloc _
        have HQ : Hid ((w3.alloc (.cells #[I D2, I D3] 43)).cell? ⟨w3.heap.size, 0, none⟩ = some (I D2) ∧ (w3.alloc (.cells #[I D2, I D3] 43)).cell? ⟨w3.heap.size, 1, none⟩ = some (I D3)) := ⟨by simp, by simp⟩
        have m4 := m2.trans (e3.trans e4)
        obtain ⟨d0, d1, d2, d3⟩ := HC2.out _ (e3.trans e4)
        have hs3 : w.heap.size < w3.heap.size := by
          obtain ⟨x, _⟩ := HC2.out w3 e3
          exact cell_lt x
        obtain ⟨p0, p1, p2, p3⟩ := HC2.out w3 e3
        go_wp2_with fail
        refine (rDo_any v l k a o n _ (hv.ext m4) HOK.out HWC.out).mono ?_
        rintro e w5 ⟨⟨u5, rfl, hw5, _⟩, e5⟩
        rw [HD.out] at hw5 ⊢
        simp only [] at hw5
        clear d0 d1 d2 d3 p0 p1 p2 p3
        have e6 : Ext w5 (w5.alloc (.cells #[I D2, I D3] 43)) := (Ext.refl w5).alloc _
        have m6 := m4.trans (e5.trans e6)
        obtain ⟨q1, q2⟩ := HQ.out
        replace q1 := e5.cell q1
        replace q2 := e5.cell q2
        have r1 := fun o => ((Ext.refl w5).alloc o).cell q1
        have r2 := fun o => ((Ext.refl w5).alloc o).cell q2
        have hs5 : w3.heap.size < w5.heap.size := cell_lt q1
        go_wp2_with fail
        refine (sameWrites_eq rfl (hu2.ext (e4.trans (e5.trans e6))) (hw5.ext e6)).to fun r w7 e7 hr => ?_
        subst hr
        go_wp2_with fail
        go_meet
        case rel => exact m6.trans e7
    case rest =>
      rename World => w3
      have m3 : Ext w w3 := hcut
      clear hcut HC2 HCC m2 w2 c
      go_upto_region 8 with fail
      go_cut [63] (fun s wc => s = .bool false ∧ Ext w wc)
      case first =>
        go_wp2_with fail
        refine Calls.drawn (refWrong_any cv xs w3 (hc.ext m3)) (fun n1 => ?_)
        have m4 := m3.drewN n1
        by_cases hx : wrongOf xs = 0
        · rw [hx]
          go_wp2_with fail
          refine (Of_any cv xs _ (hc.ext m4) hx).mono ?_
          rintro e w5 ⟨r, rfl, e5, hr5⟩
          go_wp2_with fail
          refine (refOf_any cv xs _ (hc.ext (m4.trans e5)) hx).mono ?_
          rintro e w6 ⟨r6, rfl, e6, hr6⟩
          go_wp2_with fail
          refine (sameWrites_eq rfl (hr5.ext e6) hr6).to fun r w7 e7 hr => ?_
          subst hr
          go_wp2_with fail
          go_meet
          case rel => exact ⟨rfl, m4.trans (e5.trans (e6.trans e7))⟩
        · have hb : (wrongOf xs == 0) = false := by simpa using hx
          clear hx
          go_wp2_with fail
          go_meet
          case rel => exact ⟨rfl, m4⟩
      case rest =>
        rename World => w4
        obtain ⟨rfl, m4⟩ := hcut
        clear m3 w3
        go_wp2_with fail
        go_loopw [66] (fun i wr => ∃ j : Nat, j ≤ q.length ∧ i = I j ∧ (∀ r ∈ q.take j, wrongCl r.call = 0) ∧ Ext w wr) (fun i _ => q.length - (intOf i).toNat)
        case atStart => exact ⟨0, by omega, rfl, fun r hr => by simp at hr, m4⟩
        case round =>
          obtain ⟨j, hj, rfl, hok, he⟩ := hrel
          have HOK : Hid (∀ r ∈ q.take j, wrongCl r.call = 0) := hok
          clear hok m4
          by_cases hlt : j < q.length
          · have hgk : q[j]? = some q[j] := List.getElem?_eq_getElem hlt
            obtain ⟨b, off, rfl, d0, d1, d2, d3, d4, d5⟩ := H3.out j _ hgk
            replace d0 := he.cell d0
            replace d1 := he.cell d1
            replace d2 := he.cell d2
            replace d3 := he.cell d3
            replace d4 := he.cell d4
            replace d5 := he.cell d5
            have HT : Hid (q.take (j + 1) = q.take j ++ [q[j]]) := by unfold Hid; rw [List.take_add_one, hgk]; rfl
            clear hgk
            generalize q[j] = rq at *
            obtain ⟨cl, tk, kd, nm, ot, nn⟩ := rq
            simp only [] at d0 d1 d2 d3 d4 d5
            have e1 : Ext wr (wr.alloc (.cells #[I cl, I tk, I kd, I nm, I ot, I nn] 48)) := (Ext.refl wr).alloc _
            go_wp2_with fail
            refine Calls.exts (refWrongCall_any kd nm ot nn _) (fun w5 e5 => ?_)
            have m5 := he.trans (e1.trans e5)
            clear d0 d1 d2 d3 d4 d5
            by_cases hw0 : wrongCl ⟨kd, nm, ot, nn⟩ = 0
            · have HW : Hid (wrongCl ⟨kd, nm, ot, nn⟩ = 0) := hw0
              rw [hw0]
              clear hw0
              go_wp2
              go_roundw
              case rel =>
                refine ⟨j + 1, by omega, by go_num, fun r hr => ?_, m5⟩
                rw [HT.out, List.mem_append, List.mem_singleton] at hr
                rcases hr with hr | rfl
                · exact HOK.out r hr
                · exact HW.out
              case measure => simp [intOf]; omega
            · have hb : (wrongCl ⟨kd, nm, ot, nn⟩ != 0) = true := by simpa using hw0
              clear hw0
              go_wp2
              go_ret
              exact ⟨rfl, m5⟩
          · have HALL : Hid (∀ r ∈ q, wrongCl r.call = 0) := by
              have := HOK.out
              rwa [List.take_of_length_le (by omega)] at this
            clear HOK
            go_wp2_with fail
            refine (All_any _ q wr (hp.ext he) HALL.out hr).mono ?_
            rintro e w5 ⟨r, rfl, e5, x, y, rfl, hx, hy⟩
            go_wp2_with fail
            refine (rAll_any _ q w5 (hp.ext (he.trans e5)) HALL.out hr).mono ?_
            rintro e w6 ⟨r, rfl, e6, x2, y2, rfl, hx2, hy2⟩
            have m6 := he.trans (e5.trans e6)
            replace hx := hx.ext e6
            replace hy := hy.ext e6
            generalize (allCl (q.map Rq.call)).1 = A1 at *
            generalize (allCl (q.map Rq.call)).2 = A2 at *
            obtain ⟨ay, cy, rfl, y1, y3, y4⟩ := hy.form
            obtain ⟨az, cz, rfl, z1, z3, z4⟩ := hy2.form
            unfold maxLen at y3 z3
            have HY : Hid _ := y4
            have HZ : Hid _ := z4
            clear y4 z4 hy hy2 e5 e6
            go_wp2_with fail
            refine (sameWrites_eq rfl hx hx2).to fun r w7 e7 hr => ?_
            subst hr
            have m7 := m6.trans e7
            clear hx hx2
            go_wp2_with fail
            go_loopw [98] (fun i wr' => ∃ m : Nat, m ≤ A2.length ∧ i = I m ∧ Ext w6 w7 ∧ Ext w7 wr') (fun i _ => A2.length - (intOf i).toNat)
            case atStart => exact ⟨0, by omega, rfl, e7, Ext.refl _⟩
            case round =>
              obtain ⟨m, hm, rfl, _, e8⟩ := hrel
              have m8 := m7.trans e8
              by_cases hlm : m < A2.length
              · obtain ⟨b1, o1, rfl, t1, t2⟩ := HY.out m hlm
                obtain ⟨b2, o2, rfl, t3, t4⟩ := HZ.out m hlm
                replace t1 := (e7.trans e8).cell t1
                replace t2 := (e7.trans e8).cell t2
                replace t3 := (e7.trans e8).cell t3
                replace t4 := (e7.trans e8).cell t4
                generalize A2.getD m (0, 0) = p at *
                obtain ⟨p1, p2⟩ := p
                simp only [] at t1 t2 t3 t4
                go_wp2_with fail
                go_quiet (fail)
                go_wp2
                go_roundw
                case rel => exact ⟨m + 1, by omega, by go_num, e7, e8.drewN _⟩
                case measure => simp [intOf]; omega
              · go_wp2
                go_ret
                exact ⟨rfl, m8⟩

end Go.Proofs.Ytdmipnnfoolelaa

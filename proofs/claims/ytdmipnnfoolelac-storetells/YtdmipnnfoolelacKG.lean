/- Texts of the proof, merged: S5 D4 S6 S11 S12 S13 S14. -/
import Derived.Test.YtdmipnnfoolelacKE
import Derived.Test.YtdmipnnfoolelacKD
import Derived.Test.YtdmipnnfoolelacKF

namespace Go.Proofs.Ytdmipnnfoolelac
open Go.RowKit Go.Mk

/-- Requests, place by place. -/
theorem rqs_form {w : World} {v : Value} {l : List Rq} (h : RowOf 6 elRq w v l) : ∃ ao cap, v = .slice ao l.length cap ∧ l.length ≤ cap ∧ cap ≤ maxLen ∧
    ∀ k r, l[k]? = some r → ∃ b off, ao = some ⟨b, off, none⟩ ∧ w.cell? ⟨b, off + k * 6, none⟩ = some (I r.client) ∧ w.cell? ⟨b, off + k * 6 + 1, none⟩ = some (I r.token) ∧ w.cell? ⟨b, off + k * 6 + 2, none⟩ = some (I r.call.kind) ∧
      w.cell? ⟨b, off + k * 6 + 3, none⟩ = some (I r.call.name) ∧ w.cell? ⟨b, off + k * 6 + 4, none⟩ = some (I r.call.other) ∧ w.cell? ⟨b, off + k * 6 + 5, none⟩ = some (I r.call.n) := (rowOf_reqs.1 h).form

set_option maxRecDepth 100000 in
set_option maxHeartbeats 1000000 in
theorem sameStore_eq (c u a p c' u' a' p' : Value) (s : St) (w : World) (h : elSt w [c, u, a, p] s) (h' : elSt w [c', u', a', p'] s) :
    Calls Try.prog 22 #[.agg #[c, u, a, p], .agg #[c', u', a', p']] w fun e w' => e = .returned (.bool true) ∧ Ext w w' := by
  obtain ⟨h1, h2, h3, h4⟩ := st_iff.1 h
  obtain ⟨k1, k2, k3, k4⟩ := st_iff.1 h'
  clear h h'
  obtain ⟨aa, ac, rfl, g1, g2, g3⟩ := ans_form h3
  obtain ⟨ba, bc, rfl, _, f2, f3⟩ := ans_form k3
  obtain ⟨pa, pc, rfl, _, m2, m3⟩ := rqs_form h4
  obtain ⟨qa, qc, rfl, _, n2, n3⟩ := rqs_form k4
  unfold maxLen at g2 f2 m2 n2
  clear h3 k3 h4 k4
  have e0 : Ext w ((w.alloc (.cells #[c, u, .slice aa s.answers.length ac, .slice pa s.past.length pc] 48)).alloc (.cells #[c', u', .slice ba s.answers.length bc, .slice qa s.past.length qc] 48)) := ((Ext.refl w).alloc _).alloc _
  have HB := Lib.hid (fun wx (h : Ext ((w.alloc (.cells #[c, u, .slice aa s.answers.length ac, .slice pa s.past.length pc] 48)).alloc (.cells #[c', u', .slice ba s.answers.length bc, .slice qa s.past.length qc] 48)) wx) => And.intro (first_block h) (second_block h))
  have hst : Try.prog.stoodInHeld 30 = false := by kernel_rfl
  have hgd : Try.prog.eqGuardType Try.prog.depth 30 = false := by kernel_rfl
  have hst2 : Try.prog.stoodInHeld 25 = false := by kernel_rfl
  have hgd2 : Try.prog.eqGuardType Try.prog.depth 25 = false := by kernel_rfl
  have G3 := Lib.hid g3
  have F3 := Lib.hid f3
  have M3 := Lib.hid m3
  have N3 := Lib.hid n3
  clear g3 f3 m3 n3
  generalize s.answers = al at *
  generalize s.past = pl at *
  go_enter Try.func22, Try.ntmps22
  go_wp2_with fail
  generalize hw0 : (w.alloc (.cells #[c, u, .slice aa al.length ac, .slice pa pl.length pc] 48)).alloc (.cells #[c', u', .slice ba al.length bc, .slice qa pl.length qc] 48) = w0 at *
  clear hw0
  refine (sameInts_eq rfl (h1.ext e0) (k1.ext e0)).to fun r w1 e1 hr => ?_
  subst hr
  obtain ⟨b0, b1⟩ := HB.out w1 e1
  obtain ⟨x0, x1, x2, x3, -⟩ := box4 b0
  obtain ⟨y0, y1, y2, y3, -⟩ := box4 b1
  go_wp2_with fail
  clear x0 x1 x2 x3 y0 y1 y2 y3 b0 b1
  refine (sameWrites_eq rfl (h2.ext (e0.trans e1)) (k2.ext (e0.trans e1))).to fun r w2 e2 hr => ?_
  subst hr
  replace e2 := e1.trans e2
  clear e1 h1 h2 k1 k2
  obtain ⟨b0, b1⟩ := HB.out w2 e2
  obtain ⟨x0, x1, x2, x3, -⟩ := box4 b0
  obtain ⟨y0, y1, y2, y3, -⟩ := box4 b1
  go_wp2
  clear x0 x1 x2 x3 y0 y1 y2 y3 b0 b1
  go_loopw [42] (fun i wr => ∃ k : Nat, k ≤ al.length ∧ i = I k ∧ Ext w0 wr) (fun i _ => al.length - (intOf i).toNat)
  case atStart => exact ⟨0, by omega, rfl, e2⟩
  case round =>
    obtain ⟨k, hk, rfl, he⟩ := hrel
    by_cases hlt : k < al.length
    · obtain ⟨x, hx⟩ : ∃ x, al[k]? = some x := ⟨al[k], List.getElem?_eq_getElem hlt⟩
      obtain ⟨b, off, rfl, c0, c1, c2, c3⟩ := G3.out k x hx
      obtain ⟨b', off', rfl, d0, d1, d2, d3⟩ := F3.out k x hx
      clear hx
      have mr : Ext w wr := e0.trans he
      replace c0 := mr.cell c0
      replace c1 := mr.cell c1
      replace c2 := mr.cell c2
      replace c3 := mr.cell c3
      replace d0 := mr.cell d0
      replace d1 := mr.cell d1
      replace d2 := mr.cell d2
      replace d3 := mr.cell d3
      obtain ⟨b0, b1⟩ := HB.out wr he
      obtain ⟨x0, x1, x2, x3, -⟩ := box4 b0
      obtain ⟨y0, y1, y2, y3, -⟩ := box4 b1
      obtain ⟨xc, xt, ⟨xe, xn⟩⟩ := x
      go_wp2_with fail
      refine wp_region_mono [none, none, none, none, none, none, none, none, none, none, none] (by kernel_rfl) (by kernel_rfl) ?_ ?_
      · exact ⟨trivial, trivial, trivial, trivial, trivial, trivial, trivial, trivial, trivial, trivial, trivial, trivial⟩
      iterate 1 (refine wpM_p (fun K hK => ?_); go_simp; first | refine hK _ ?_ | refine ⟨(fun h => by cases h), hK _ ?_⟩; clear hK K)
      refine wpM_q (.slice (some ⟨b, off, none⟩) al.length ac) rfl (fun w' hw' => by have q0 := hw'.cell x2; go_simp) ?_
      refine wpM_norm (fun K hK => ?_); go_simp; refine hK _ ?_; clear hK K
      iterate 2 (refine wpM_p (fun K hK => ?_); go_simp; first | refine hK _ ?_ | refine ⟨(fun h => by cases h), hK _ ?_⟩; clear hK K)
      refine wpM_q (.agg #[I xc, I xt, I xe, I xn]) rfl (fun w' hw' => by have q0 := hw'.cell c0; have q1 := hw'.cell c1; have q2 := hw'.cell c2; have q3 := hw'.cell c3; go_simp) ?_
      refine wpM_norm (fun K hK => ?_); go_simp; refine hK _ ?_; clear hK K
      iterate 1 (refine wpM_p (fun K hK => ?_); go_simp; first | refine hK _ ?_ | refine ⟨(fun h => by cases h), hK _ ?_⟩; clear hK K)
      refine wpM_q (.slice (some ⟨b', off', none⟩) al.length bc) rfl (fun w' hw' => by have q0 := hw'.cell y2; go_simp) ?_
      refine wpM_norm (fun K hK => ?_); go_simp; refine hK _ ?_; clear hK K
      iterate 2 (refine wpM_p (fun K hK => ?_); go_simp; first | refine hK _ ?_ | refine ⟨(fun h => by cases h), hK _ ?_⟩; clear hK K)
      refine wpM_q (.agg #[I xc, I xt, I xe, I xn]) rfl (fun w' hw' => by have q0 := hw'.cell d0; have q1 := hw'.cell d1; have q2 := hw'.cell d2; have q3 := hw'.cell d3; go_simp) ?_
      refine wpM_norm (fun K hK => ?_); go_simp; refine hK _ ?_; clear hK K
      iterate 1 (refine wpM_p (fun K hK => ?_); go_simp; first | refine hK _ ?_ | refine ⟨(fun h => by cases h), hK _ ?_⟩; clear hK K)
      refine wpM_nil ?_
      intro wn hen _
      clear c0 c1 c2 c3 d0 d1 d2 d3 x0 x1 x2 x3 y0 y1 y2 y3 b0 b1
      go_wp2
      go_roundw
      case rel => exact ⟨k + 1, by omega, by go_num, he.trans hen⟩
      case measure => simp [intOf]; omega
    · have mr : Ext w wr := e0.trans he
      obtain ⟨b0, b1⟩ := HB.out wr he
      obtain ⟨x0, x1, x2, x3, -⟩ := box4 b0
      clear b0 b1
      go_wp2
      clear x0 x1 x2 x3
      go_loopw [60] (fun i wr => ∃ k : Nat, k ≤ pl.length ∧ i = I k ∧ Ext w0 wr) (fun i _ => pl.length - (intOf i).toNat)
      case atStart => exact ⟨0, by omega, rfl, he⟩
      case round =>
        clear he mr
        obtain ⟨k, hk, rfl, he⟩ := hrel
        by_cases hlt : k < pl.length
        · obtain ⟨x, hx⟩ : ∃ x, pl[k]? = some x := ⟨pl[k], List.getElem?_eq_getElem hlt⟩
          obtain ⟨b, off, rfl, c0, c1, c2, c3, c4, c5⟩ := M3.out k x hx
          obtain ⟨b', off', rfl, d0, d1, d2, d3, d4, d5⟩ := N3.out k x hx
          clear hx
          have mr : Ext w wr := e0.trans he
          replace c0 := mr.cell c0
          replace c1 := mr.cell c1
          replace c2 := mr.cell c2
          replace c3 := mr.cell c3
          replace c4 := mr.cell c4
          replace c5 := mr.cell c5
          replace d0 := mr.cell d0
          replace d1 := mr.cell d1
          replace d2 := mr.cell d2
          replace d3 := mr.cell d3
          replace d4 := mr.cell d4
          replace d5 := mr.cell d5
          obtain ⟨b0, b1⟩ := HB.out wr he
          obtain ⟨x0, x1, x2, x3, -⟩ := box4 b0
          obtain ⟨y0, y1, y2, y3, -⟩ := box4 b1
          obtain ⟨xc, xt, ⟨xk, xa, xo, xn⟩⟩ := x
          go_wp2_with fail
          refine wp_region_mono [none, none, none, none, none, none, none, none, none, none, none] (by kernel_rfl) (by kernel_rfl) ?_ ?_
          · exact ⟨trivial, trivial, trivial, trivial, trivial, trivial, trivial, trivial, trivial, trivial, trivial, trivial⟩
          iterate 1 (refine wpM_p (fun K hK => ?_); go_simp; first | refine hK _ ?_ | refine ⟨(fun h => by cases h), hK _ ?_⟩; clear hK K)
          refine wpM_q (.slice (some ⟨b, off, none⟩) pl.length pc) rfl (fun w' hw' => by have q0 := hw'.cell x3; go_simp) ?_
          refine wpM_norm (fun K hK => ?_); go_simp; refine hK _ ?_; clear hK K
          iterate 2 (refine wpM_p (fun K hK => ?_); go_simp; first | refine hK _ ?_ | refine ⟨(fun h => by cases h), hK _ ?_⟩; clear hK K)
          refine wpM_q (.agg #[I xc, I xt, I xk, I xa, I xo, I xn]) rfl (fun w' hw' => by have q0 := hw'.cell c0; have q1 := hw'.cell c1; have q2 := hw'.cell c2; have q3 := hw'.cell c3; have q4 := hw'.cell c4; have q5 := hw'.cell c5; go_simp) ?_
          refine wpM_norm (fun K hK => ?_); go_simp; refine hK _ ?_; clear hK K
          iterate 1 (refine wpM_p (fun K hK => ?_); go_simp; first | refine hK _ ?_ | refine ⟨(fun h => by cases h), hK _ ?_⟩; clear hK K)
          refine wpM_q (.slice (some ⟨b', off', none⟩) pl.length qc) rfl (fun w' hw' => by have q0 := hw'.cell y3; go_simp) ?_
          refine wpM_norm (fun K hK => ?_); go_simp; refine hK _ ?_; clear hK K
          iterate 2 (refine wpM_p (fun K hK => ?_); go_simp; first | refine hK _ ?_ | refine ⟨(fun h => by cases h), hK _ ?_⟩; clear hK K)
          refine wpM_q (.agg #[I xc, I xt, I xk, I xa, I xo, I xn]) rfl (fun w' hw' => by have q0 := hw'.cell d0; have q1 := hw'.cell d1; have q2 := hw'.cell d2; have q3 := hw'.cell d3; have q4 := hw'.cell d4; have q5 := hw'.cell d5; go_simp) ?_
          refine wpM_norm (fun K hK => ?_); go_simp; refine hK _ ?_; clear hK K
          iterate 1 (refine wpM_p (fun K hK => ?_); go_simp; first | refine hK _ ?_ | refine ⟨(fun h => by cases h), hK _ ?_⟩; clear hK K)
          refine wpM_nil ?_
          intro wn hen _
          clear c0 c1 c2 c3 c4 c5 d0 d1 d2 d3 d4 d5 x0 x1 x2 x3 y0 y1 y2 y3 b0 b1
          go_wp2
          go_roundw
          case rel => exact ⟨k + 1, by omega, by go_num, he.trans hen⟩
          case measure => simp [intOf]; omega
        · go_wp2
          go_ret
          exact ⟨rfl, e0.trans he⟩

end Go.Proofs.Ytdmipnnfoolelac

namespace Go.Proofs.Ytdmipnnfoolelac
open Go.RowKit Go.Mk

theorem right_cells {xs : List Int} (h : wrongOf xs = 0) : xs.length = 11 ∧ 0 ≤ xs.getD 0 0 ∧ xs.getD 0 0 ≤ 5 := by
  have hl := right_len h
  unfold wrongOf at h
  rw [if_neg (by simp [hl])] at h
  by_cases h0 : 0 ≤ xs.getD 0 0 ∧ xs.getD 0 0 ≤ 5
  · exact ⟨hl, h0⟩
  · rw [if_pos h0] at h; cases h

end Go.Proofs.Ytdmipnnfoolelac

namespace Go.Proofs.Ytdmipnnfoolelac
open Go.RowKit Go.Mk

/-- What RightStore tells: where it is true the store is right. -/
def TellsRight (s : St) (w : World) (e : Ending) (w' : World) : Prop := ∃ b, e = .returned (.bool b) ∧ (b = true → rightSt s) ∧ Ext w w'

def OkTo (al : List An) (k : Nat) : Prop := ∀ (j : Nat) (x : An), j < k → al[j]? = some x → wrongAn x = 0 ∧ ∀ (i : Nat) (y : An), i < j → al[i]? = some y → y.client ≠ x.client
theorem OkTo.next {al : List An} {k : Nat} {x : An} (h : OkTo al k) (hx : al[k]? = some x) (hw : wrongAn x = 0) (hc : ∀ (i : Nat) (y : An), i < k → al[i]? = some y → y.client ≠ x.client) : OkTo al (k + 1) := fun j y hj hy => by
  by_cases hjk : j = k
  · subst hjk
    rw [hx] at hy
    cases hy
    exact ⟨hw, hc⟩
  · exact h j y (by omega) hy

set_option maxRecDepth 100000 in
set_option maxHeartbeats 2000000 in
theorem refRightStore_any (c u a p : Value) (s : St) (w : World) (h : elSt w [c, u, a, p] s) :
    Calls Try.prog 24 #[.agg #[c, u, a, p]] w (TellsRight s w) := by
  obtain ⟨h1, h2, h3, h4⟩ := st_iff.1 h
  clear h
  obtain ⟨cl, ul, al, pl⟩ := s
  simp only [] at h1 h2 h3 h4
  obtain ⟨ca, cc, rfl, -⟩ := h1.form
  obtain ⟨ua, uc, rfl, v1, v2, v3⟩ := h2.form
  obtain ⟨aa, ac, rfl, g1, g2, g3⟩ := ans_form h3
  obtain ⟨pa, pc, rfl, -⟩ := rqs_form h4
  unfold maxLen at g2 v2
  clear h3 h4
  have G3 := Lib.hid g3
  have V3 := Lib.hid v3
  clear g3 v3
  have e0 : Ext w (w.alloc (.cells #[.slice ca cl.length cc, .slice ua ul.length uc, .slice aa al.length ac, .slice pa pl.length pc] 48)) := (Ext.refl w).alloc _
  have HB := Lib.hid (fun wx (h : Ext (w.alloc (.cells #[.slice ca cl.length cc, .slice ua ul.length uc, .slice aa al.length ac, .slice pa pl.length pc] 48)) wx) => block_ext h)
  by_cases hcl : cl.length = 11
  case neg =>
    have hb : (((cl.length : Int)) != 11) = true := by rw [bne_iff_ne]; omega
    clear h1 h2
    go_enter Try.func24, Try.ntmps24
    go_wp2
    go_ret
    exact ⟨false, rfl, (fun h => by cases h), e0⟩
  have hb : (((cl.length : Int)) != 11) = false := by rw [bne_eq_false_iff_eq]; omega
  have HCL := Lib.hid hcl
  clear hcl
  go_enter Try.func24, Try.ntmps24
  go_wp2_with fail
  generalize hw0 : w.alloc (.cells #[.slice ca cl.length cc, .slice ua ul.length uc, .slice aa al.length ac, .slice pa pl.length pc] 48) = w0 at *
  clear hw0
  refine (refSet2_any _ _ cl ul w0 (h1.ext e0) (h2.ext e0) (by have := HCL.out; omega)).to fun r w1 e1 hr1 => ?_
  go_wp2_with fail
  refine Calls.drawn (refWrong_any r _ w1 hr1) (fun m1 => ?_)
  replace e1 := e1.drewN m1
  generalize w1.drewN m1 = w2 at *
  clear hr1
  by_cases hz : wrongOf (setAll cl ul) = 0
  case neg =>
    have hbz : (wrongOf (setAll cl ul) != 0) = true := by simpa using hz
    go_wp2
    go_ret
    exact ⟨false, rfl, (fun h => by cases h), e0.trans e1⟩
  rw [hz]
  have HZ := Lib.hid hz
  clear hz hb
  have b0 := HB.out w2 e1
  obtain ⟨x0, x1, x2, x3, -⟩ := box4 b0
  by_cases hu : ul.length ≤ 100
  case neg =>
    have hu2 : (100 : Int) < (ul.length : Int) := by omega
    go_wp2
    go_ret
    exact ⟨false, rfl, (fun h => by cases h), e0.trans e1⟩
  by_cases ha : al.length ≤ 3
  case neg =>
    have ha2 : (3 : Int) < (al.length : Int) := by omega
    have hu2 : ¬ ((100 : Int) < (ul.length : Int)) := by omega
    go_wp2
    go_ret
    exact ⟨false, rfl, (fun h => by cases h), e0.trans e1⟩
  by_cases hp : pl.length ≤ 100
  case neg =>
    have hp2 : (100 : Int) < (pl.length : Int) := by omega
    have ha2 : ¬ ((3 : Int) < (al.length : Int)) := by omega
    have hu2 : ¬ ((100 : Int) < (ul.length : Int)) := by omega
    go_wp2
    go_ret
    exact ⟨false, rfl, (fun h => by cases h), e0.trans e1⟩
  have hp2 : ¬ ((100 : Int) < (pl.length : Int)) := by omega
  have ha2 : ¬ ((3 : Int) < (al.length : Int)) := by omega
  have hu2 : ¬ ((100 : Int) < (ul.length : Int)) := by omega
  go_wp2
  clear x0 x1 x2 x3 b0 hp2 ha2 hu2
  have HU := Lib.hid hu
  have HA := Lib.hid ha
  have HP := Lib.hid hp
  clear hu ha hp h1 h2
  go_loopw [43] (fun i wr => ∃ k : Nat, k ≤ al.length ∧ i = I k ∧ OkTo al k ∧ Ext w0 wr) (fun i _ => al.length - (intOf i).toNat)
  case atStart => exact ⟨0, by omega, rfl, fun j x hj => by omega, e1⟩
  case round =>
    obtain ⟨k, hk, rfl, hok, he⟩ := hrel
    have HOK := Lib.hid hok
    clear hok
    by_cases hlt : k < al.length
    · obtain ⟨x, hx⟩ : ∃ x, al[k]? = some x := ⟨al[k], List.getElem?_eq_getElem hlt⟩
      obtain ⟨b, off, rfl, c0, c1, c2, c3⟩ := G3.out k x hx
      have HX := Lib.hid hx
      clear hx
      have mr : Ext w wr := e0.trans he
      replace c0 := mr.cell c0
      replace c1 := mr.cell c1
      replace c2 := mr.cell c2
      replace c3 := mr.cell c3
      obtain ⟨xc, xt, ⟨xe, xn⟩⟩ := x
      go_wp2_with fail
      clear c0 c1 c2 c3
      refine Calls.exts (refWrongAnswer_any xc xt xe xn _) (fun w3 e3 => ?_)
      by_cases hwx : wrongAn ⟨xc, xt, ⟨xe, xn⟩⟩ = 0
      case neg =>
        have hbw : (wrongAn ⟨xc, xt, ⟨xe, xn⟩⟩ != 0) = true := by simpa using hwx
        go_wp2
        go_ret
        exact ⟨false, rfl, (fun h => by cases h), mr.trans (((Ext.refl wr).alloc _).trans e3)⟩
      rw [hwx]
      have HWX := Lib.hid hwx
      clear hwx
      have bx : w3.heap[wr.heap.size]? = some (.cells #[I xc, I xt, I xe, I xn] 30 (0, 0)) := block_ext e3
      replace e3 := he.trans (((Ext.refl wr).alloc (.cells #[I xc, I xt, I xe, I xn] 30)).trans e3)
      have b0 := HB.out w3 e3
      obtain ⟨x0, x1, x2, x3, -⟩ := box4 b0
      have hk0 : (0 : Int) ≤ (k : Int) := by omega
      have hkc : (k : Int) ≤ (ac : Int) := by omega
      go_wp2
      clear x0 x1 x2 x3 b0
      go_loopw [56] (fun i wi => ∃ m : Nat, m ≤ k ∧ i = I m ∧ (∀ (i : Nat) (y : An), i < m → al[i]? = some y → y.client ≠ xc) ∧ Ext w3 wi) (fun i _ => k - (intOf i).toNat)
      case atStart => exact ⟨0, by omega, rfl, fun i y hi => by omega, Ext.refl _⟩
      case round =>
        obtain ⟨m, hm, rfl, hne, hei⟩ := hrel
        have HNE := Lib.hid hne
        clear hne
        have mi := e0.trans (e3.trans hei)
        by_cases hml : m < k
        · obtain ⟨y, hy⟩ : ∃ y, al[m]? = some y := ⟨al[m], List.getElem?_eq_getElem (by omega)⟩
          obtain ⟨b2, off2, hbo, c0, c1, c2, c3⟩ := G3.out m y hy
          simp only [Option.some.injEq, Addr.mk.injEq, and_true] at hbo
          obtain ⟨rfl, rfl⟩ := hbo
          have HY := Lib.hid hy
          clear hy
          replace c0 := mi.cell c0
          replace c1 := mi.cell c1
          replace c2 := mi.cell c2
          replace c3 := mi.cell c3
          obtain ⟨yc, yt, ⟨ye, yn⟩⟩ := y
          have z0 := fun o => (box4 (block_of bx (hei.alloc o))).1
          by_cases hc : yc = xc
          · have hb : (xc == yc) = true := by simpa using hc.symm
            clear hc
            go_wp2
            go_ret
            exact ⟨false, rfl, (fun h => by cases h), mi.alloc _⟩
          · have hb : (xc == yc) = false := by simpa using fun e => hc e.symm
            have HC := Lib.hid hc
            clear hc
            go_wp2
            go_roundw
            case rel =>
              refine ⟨m + 1, by omega, by go_num, fun i z hi hz => ?_, hei.alloc _⟩
              by_cases him : i = m
              · subst him
                have hz2 : al[i]? = some z := hz
                rw [HY.out] at hz2
                cases hz2
                exact HC.out
              · exact HNE.out i z (by omega) hz
            case measure => simp [intOf]; omega
        · have hmk : m = k := by omega
          subst hmk
          go_wp2
          go_roundw
          case rel => exact ⟨m + 1, by omega, by go_num, HOK.out.next HX.out HWX.out HNE.out, e3.trans hei⟩
          case measure => simp [intOf]; omega
    · have hkl : k = al.length := by omega
      subst hkl
      have b0 := HB.out wr he
      obtain ⟨x0, x1, x2, x3, -⟩ := box4 b0
      go_wp2
      clear x0 x1 x2 x3 b0
      go_loopw [70] (fun i wi => ∃ m : Nat, m ≤ ul.length ∧ i = I m ∧ (∀ j, j < m → 0 ≤ (ul.getD j (0, 0)).1 ∧ (ul.getD j (0, 0)).1 ≤ 10) ∧ Ext w0 wi) (fun i _ => ul.length - (intOf i).toNat)
      case atStart => exact ⟨0, by omega, rfl, fun j hj => by omega, he⟩
      case round =>
        obtain ⟨m, hm, rfl, hin, hei⟩ := hrel
        have HIN := Lib.hid hin
        clear hin
        by_cases hml : m < ul.length
        · obtain ⟨b, off, rfl, c0, c1⟩ := V3.out m hml
          have mi := e0.trans hei
          replace c0 := mi.cell c0
          replace c1 := mi.cell c1
          generalize hq : ul.getD m (0, 0) = q at *
          have HQ := Lib.hid hq
          clear hq
          obtain ⟨q1, q2⟩ := q
          simp only [] at c0 c1
          by_cases l0 : q1 < 0
          · go_wp2
            go_ret
            exact ⟨false, rfl, (fun h => by cases h), mi.alloc _⟩
          by_cases l1 : 10 < q1
          · go_wp2
            go_ret
            exact ⟨false, rfl, (fun h => by cases h), mi.alloc _⟩
          go_wp2
          go_roundw
          case rel =>
            refine ⟨m + 1, by omega, by go_num, fun j hj => ?_, hei.alloc _⟩
            by_cases hjm : j = m
            · subst hjm
              rw [HQ.out]
              simp only []
              omega
            · exact HIN.out j (by omega)
          case measure => simp [intOf]; omega
        · have hmu : m = ul.length := by omega
          subst hmu
          go_wp2
          go_ret
          refine ⟨true, rfl, fun _ => ?_, e0.trans hei⟩
          refine ⟨HCL.out, HZ.out, HU.out, HA.out, HP.out, fun a ha => ?_, fun i j hij a b ha hb => ?_, fun q hq => ?_⟩
          · obtain ⟨j, hj⟩ := List.mem_iff_getElem?.1 ha
            exact (HOK.out j a (List.getElem?_eq_some_iff.1 hj).1 hj).1
          · exact (HOK.out j b (List.getElem?_eq_some_iff.1 hb).1 hb).2 i a hij ha
          · obtain ⟨j, hj⟩ := List.mem_iff_getElem?.1 hq
            have hjl := (List.getElem?_eq_some_iff.1 hj).1
            have := HIN.out j hjl
            rw [List.getD_eq_getElem?_getD, hj] at this
            exact this

end Go.Proofs.Ytdmipnnfoolelac

namespace Go.Proofs.Ytdmipnnfoolelac
open Go.RowKit Go.Mk

theorem monoAgg {X : Type} {R : El X} (hR : MonoR R) (x : X) : ∀ v, MonoP (Agg R x v) := fun _ _ _ he ⟨cs, e, h⟩ => ⟨cs, e, hR _ _ _ _ he h⟩
theorem agg_st {s : St} {v : Value} {w : World} (h : Agg elSt s v w) : ∃ a b d e, v = .agg #[a, b, d, e] ∧ elSt w [a, b, d, e] s := by
  obtain ⟨cs, rfl, hs⟩ := h
  obtain ⟨a, b, d, e, rfl, h1, h2, h3, h4⟩ := hs
  exact ⟨a, b, d, e, rfl, st_iff.2 ⟨h1, h2, h3, h4⟩⟩
theorem rd_of_st {w : World} {cs : List Value} {s : St} (h : elSt w cs s) : Rd (fun k => k < w.heap.size) (fun w => elSt w cs s) w := Rd.of (fun _ _ hk h => heapSt _ _ _ _ hk h) h
theorem small_of {s : St} (h : rightSt s) : Small s := by
  obtain ⟨h1, _, h3, h4, h5, _⟩ := h
  unfold Small
  omega

set_option maxRecDepth 100000 in
set_option maxHeartbeats 8000000 in
theorem StoreTells_any (sa sb sd se : Value) (s : St) (p : Int × Int) (rc rt rk ra ro rn : Int) (q : Int × Int) (client : Int) (w : World) (h : elSt w [sa, sb, sd, se] s) :
    Gives Try.prog 6 #[.agg #[sa, sb, sd, se], .agg #[I p.1, I p.2], .agg #[I rc, I rt, I rk, I ra, I ro, I rn], .agg #[I q.1, I q.2], I client] w fun r _ => r = .bool true := by
  refine gives_exts ?_
  obtain ⟨x, y⟩ := p
  obtain ⟨xe, xn⟩ := q
  simp only []
  have hst : Try.prog.stoodInHeld 30 = false := by kernel_rfl
  have hgd : Try.prog.eqGuardType Try.prog.depth 30 = false := by kernel_rfl
  have hmk : ∀ w, (Instr.makeSlice 43 (.int .i64 11) (.int .i64 11)).run Try.prog w = .ok (.slice (some ⟨w.heap.size, 0, none⟩) 11 11) (w.alloc (.cells (List.replicate 11 (I 0)).toArray 3)) := fun _ => by kernel_rfl
  have H := Lib.hid h
  clear h
  have e0 : Ext w ((((w.alloc (.cells #[sa, sb, sd, se] 48)).alloc (.cells #[I x, I y] 50)).alloc (.cells #[I rc, I rt, I rk, I ra, I ro, I rn] 25)).alloc (.cells #[I xe, I xn] 28)) := ((((Ext.refl w).alloc _).alloc _).alloc _).alloc _
  have HB := Lib.hid (fun wx (h : Ext ((((w.alloc (.cells #[sa, sb, sd, se] 48)).alloc (.cells #[I x, I y] 50)).alloc (.cells #[I rc, I rt, I rk, I ra, I ro, I rn] 25)).alloc (.cells #[I xe, I xn] 28)) wx) => fourth_block h)
  obtain ⟨⟨lc, lt, ⟨le, ln⟩⟩, LB, hL⟩ : ∃ LA LB, lastAn s.answers client = (LA, LB) := ⟨_, _, rfl⟩
  have HL := Lib.hid hL
  clear hL
  go_enter Try.func6, Try.ntmps6
  go_wp2_with fail
  generalize hw0 : (((w.alloc (.cells #[sa, sb, sd, se] 48)).alloc (.cells #[I x, I y] 50)).alloc (.cells #[I rc, I rt, I rk, I ra, I ro, I rn] 25)).alloc (.cells #[I xe, I xn] 28) = w0 at *
  clear hw0
  refine wp_region_mono [some (.inr (Agg elSt (newSt))), some (.inr fun v wx => ∃ b, v = .slice (some ⟨b, 0, none⟩) 11 11 ∧ Ints wx v (List.replicate 11 (0 : Int))), some (.inr (Agg elSt (newSt))), some (.inl (.bool true)), none] (by kernel_rfl) (by kernel_rfl) ?_ ?_
  · exact ⟨monoAgg monoSt _, fun v _ _ he ⟨b, e, h⟩ => ⟨b, e, h.ext he⟩, monoAgg monoSt _, trivial, trivial, trivial⟩
  refine wpM_l _ rfl (fun w' hw' hk => ?_) (fun v15 => ?_)
  · skip
    clear hk
    unfold makes
    go_simp
    exact ⟨Ext.refl _, (newStore_any w').gives⟩
  refine wpM_norm (fun K hK => ?_); go_simp; refine hK _ ?_; clear hK K
  refine wpM_l _ rfl (fun w' hw' hk => ?_) (fun v16 => ?_)
  · skip
    clear hk
    unfold makes
    go_simp
    exact ⟨(Ext.refl _).alloc _, ⟨_, rfl⟩, ints_lit _ [0, 0, 0, 0, 0, 0, 0, 0, 0, 0, 0] _ 11 rfl rfl (by decide)⟩
  refine wpM_norm (fun K hK => ?_); go_simp; refine hK _ ?_; clear hK K
  refine wpM_l _ rfl (fun w' hw' hk => ?_) (fun v17 => ?_)
  · obtain ⟨b16, rfl, h16⟩ : ∃ b, v16 = .slice (some ⟨b, 0, none⟩) 11 11 ∧ Ints w' v16 (List.replicate 11 (0 : Int)) := hk 16 (by decide)
    clear hk
    unfold makes
    go_simp
    exact ⟨Ext.refl _, _, rfl, st_iff.2 ⟨h16, writes_nil _, RowOf.nil _, RowOf.nil _⟩⟩
  refine wpM_norm (fun K hK => ?_); go_simp; refine hK _ ?_; clear hK K
  refine wpM_x _ rfl (fun w' hw' hk => ?_) ?_
  · obtain ⟨z0, z1, z2, z3, rfl, g1⟩ := agg_st (show Agg elSt (newSt) v15 w' from hk 15 (by decide))
    obtain ⟨z4, z5, z6, z7, rfl, g2⟩ := agg_st (show Agg elSt (newSt) v17 w' from hk 17 (by decide))
    clear hk
    unfold makes
    go_simp
    exact ⟨Ext.refl _, gives_exts (sameStore_eq z0 z1 z2 z3 z4 z5 z6 z7 _ w' g1 g2)⟩
  refine wpM_norm (fun K hK => ?_); go_simp; refine hK _ ?_; clear hK K
  iterate 1 (refine wpM_p (fun K hK => ?_); go_simp; first | refine hK _ ?_ | refine ⟨(fun h => by cases h), hK _ ?_⟩; clear hK K)
  refine wpM_nil ?_
  intro w1 e1 _
  clear hmk
  obtain ⟨b0, -⟩ := HB.out w1 e1
  obtain ⟨x0, x1, x2, x3, -⟩ := box4 b0
  go_wp2_with fail
  clear x0 x1 x2 x3 b0
  refine (refRightStore_any sa sb sd se s w1 (monoSt _ _ _ _ (e0.trans e1) H.out)).mono ?_
  rintro e w2 ⟨b, rfl, hb, e2⟩
  have HRT := Lib.hid hb
  clear hb
  replace e2 := e1.trans e2
  cases b
  case false =>
    go_wp2
    go_ret
    exact ⟨rfl, e0.trans e2⟩
  have hR := HRT.out rfl
  have HS := Lib.hid (small_of hR)
  have HB1 : Hid (s.cells.length * 8 ≤ 140737488355328) := by unfold Hid; have := hR.1; omega
  have HB2 : Hid ((1 + s.undo.length) * 16 ≤ 140737488355328) := by unfold Hid; have := hR.2.2.1; omega
  have HB3 : Hid (s.answers.length ≤ 1000) := by unfold Hid; have := hR.2.2.2.1; omega
  have HB4 : Hid (s.past.length ≤ 1000000) := by unfold Hid; have := hR.2.2.2.2.1; omega
  clear hR HRT
  obtain ⟨b0, -⟩ := HB.out w2 e2
  obtain ⟨x0, x1, x2, x3, -⟩ := box4 b0
  go_wp2_with fail
  clear x0 x1 x2 x3 b0
  have hl := Last_any sa sb sd se s client w2 (monoSt _ _ _ _ (e0.trans e2) H.out)
  rw [HL.out] at hl
  refine Calls.exts hl (fun w3 e3 => ?_)
  clear hl
  replace e3 := e2.trans e3
  obtain ⟨b0, -⟩ := HB.out _ (e3.alloc (.cells #[I lc, I lt, I le, I ln] 30))
  obtain ⟨x0, x1, x2, x3, -⟩ := box4 b0
  go_wp2_with fail
  clear x0 x1 x2 x3 b0
  have hl := refLast_any sa sb sd se s client _ (monoSt _ _ _ _ (e0.trans (e3.alloc (.cells #[I lc, I lt, I le, I ln] 30))) H.out)
  rw [HL.out] at hl
  refine Calls.exts hl (fun w4 e4 => ?_)
  clear hl
  have e5 := (e3.alloc (.cells #[I lc, I lt, I le, I ln] 30)).trans (e4.alloc (.cells #[I lc, I lt, I le, I ln] 30))
  have bl := block_of (heap_alloc_new w3 (.cells #[I lc, I lt, I le, I ln] 30)) (e4.alloc (.cells #[I lc, I lt, I le, I ln] 30))
  have bm := heap_alloc_new w4 (.cells #[I lc, I lt, I le, I ln] 30)
  go_wp2_with fail
  generalize hw5 : w4.alloc (.cells #[I lc, I lt, I le, I ln] 30) = w5 at *
  clear hw5
  have H5 := Lib.hid (monoSt _ _ _ _ (e0.trans e5) H.out)
  obtain ⟨b0, b1, b2, b3⟩ := HB.out w5 e5
  obtain ⟨x0, x1, x2, x3, -⟩ := box4 b0
  obtain ⟨y0, y1, -⟩ := box2 b1
  obtain ⟨⟨r0, r1, r2, r3, r4, r5⟩, -⟩ := box6 b2
  obtain ⟨p0, p1, -⟩ := box2 b3
  obtain ⟨l0, l1, l2, l3, -⟩ := box4 bl
  obtain ⟨m0, m1, m2, m3, -⟩ := box4 bm
  clear b0 b1 b2 b3 bl bm
  refine wp_region_mono [none, none, none, none, none, none, none, none, none, none, some (.inr (Agg elSt (s))), none, some (.inl (.bool true)), none, none, none, none, some (.inr (Agg elSt (writeSt s (x, y)))), none, none, some (.inr (Agg elSt (writeSt s (x, y)))), some (.inl (.bool true)), none, none, none, none, none, some (.inr (Agg elSt (commitSt s ⟨rc, rt, ⟨rk, ra, ro, rn⟩⟩ ⟨xe, xn⟩))), none, none, none, some (.inr (Agg elSt (commitSt s ⟨rc, rt, ⟨rk, ra, ro, rn⟩⟩ ⟨xe, xn⟩))), some (.inl (.bool true)), none, none, none, some (.inr (Agg elSt (backSt s))), none, some (.inr (Agg elSt (backSt s))), some (.inl (.bool true)), none, none] (by kernel_rfl) (by kernel_rfl) ?_ ?_
  · exact ⟨trivial, trivial, trivial, trivial, trivial, trivial, trivial, trivial, trivial, trivial, monoAgg monoSt _, trivial, trivial, trivial, trivial, trivial, trivial, monoAgg monoSt _, trivial, trivial, monoAgg monoSt _, trivial, trivial, trivial, trivial, trivial, trivial, monoAgg monoSt _, trivial, trivial, trivial, monoAgg monoSt _, trivial, trivial, trivial, trivial, monoAgg monoSt _, trivial, monoAgg monoSt _, trivial, trivial, trivial, trivial⟩
  refine wpM_q ((.agg #[I lc, I lt, I le, I ln])) rfl (fun w' hw' => by have q0 := hw'.cell l0; have q1 := hw'.cell l1; have q2 := hw'.cell l2; have q3 := hw'.cell l3; go_simp) ?_
  refine wpM_norm (fun K hK => ?_); go_simp; refine hK _ ?_; clear hK K
  refine wpM_q ((.agg #[I lc, I lt, I le, I ln])) rfl (fun w' hw' => by have q0 := hw'.cell m0; have q1 := hw'.cell m1; have q2 := hw'.cell m2; have q3 := hw'.cell m3; go_simp) ?_
  refine wpM_norm (fun K hK => ?_); go_simp; refine hK _ ?_; clear hK K
  iterate 7 (refine wpM_p (fun K hK => ?_); go_simp; first | refine hK _ ?_ | refine ⟨(fun h => by cases h), hK _ ?_⟩; clear hK K)
  refine wpM_q ((.agg #[sa, sb, sd, se])) rfl (fun w' hw' => by have q0 := hw'.cell x0; have q1 := hw'.cell x1; have q2 := hw'.cell x2; have q3 := hw'.cell x3; go_simp) ?_
  refine wpM_norm (fun K hK => ?_); go_simp; refine hK _ ?_; clear hK K
  refine wpM_l _ rfl (fun w' hw' hk => ?_) (fun v45 => ?_)
  · have hm := monoSt _ _ _ _ hw' H5.out
    clear hk
    unfold makes
    go_simp
    exact ⟨Ext.refl _, (Own_any sa sb sd se s w' hm HS.out).mono fun _ _ _ ⟨_, _, _, _, e, h⟩ => by rw [e]; exact (agg_rd h.rd).out⟩
  refine wpM_norm (fun K hK => ?_); go_simp; refine hK _ ?_; clear hK K
  refine wpM_q ((.agg #[sa, sb, sd, se])) rfl (fun w' hw' => by have q0 := hw'.cell x0; have q1 := hw'.cell x1; have q2 := hw'.cell x2; have q3 := hw'.cell x3; go_simp) ?_
  refine wpM_norm (fun K hK => ?_); go_simp; refine hK _ ?_; clear hK K
  refine wpM_x _ rfl (fun w' hw' hk => ?_) ?_
  · obtain ⟨z0, z1, z2, z3, rfl, g1⟩ := agg_st (show Agg elSt (s) v45 w' from hk 45 (by decide))
    clear hk
    unfold makes
    go_simp
    exact ⟨Ext.refl _, gives_exts (sameStore_eq z0 z1 z2 z3 sa sb sd se _ w' g1 (monoSt _ _ _ _ hw' H5.out))⟩
  refine wpM_norm (fun K hK => ?_); go_simp; refine hK _ ?_; clear hK K
  iterate 2 (refine wpM_p (fun K hK => ?_); go_simp; first | refine hK _ ?_ | refine ⟨(fun h => by cases h), hK _ ?_⟩; clear hK K)
  refine wpM_q ((.agg #[sa, sb, sd, se])) rfl (fun w' hw' => by have q0 := hw'.cell x0; have q1 := hw'.cell x1; have q2 := hw'.cell x2; have q3 := hw'.cell x3; go_simp) ?_
  refine wpM_norm (fun K hK => ?_); go_simp; refine hK _ ?_; clear hK K
  refine wpM_q ((.agg #[I x, I y])) rfl (fun w' hw' => by have q0 := hw'.cell y0; have q1 := hw'.cell y1; go_simp) ?_
  refine wpM_norm (fun K hK => ?_); go_simp; refine hK _ ?_; clear hK K
  refine wpM_l _ rfl (fun w' hw' hk => ?_) (fun v52 => ?_)
  · have hm := monoSt _ _ _ _ hw' H5.out
    clear hk
    unfold makes
    go_simp
    exact ⟨Ext.refl _, (Write_any sa sb sd se s x y w' hm HS.out).gives⟩
  refine wpM_norm (fun K hK => ?_); go_simp; refine hK _ ?_; clear hK K
  refine wpM_q ((.agg #[sa, sb, sd, se])) rfl (fun w' hw' => by have q0 := hw'.cell x0; have q1 := hw'.cell x1; have q2 := hw'.cell x2; have q3 := hw'.cell x3; go_simp) ?_
  refine wpM_norm (fun K hK => ?_); go_simp; refine hK _ ?_; clear hK K
  refine wpM_q ((.agg #[I x, I y])) rfl (fun w' hw' => by have q0 := hw'.cell y0; have q1 := hw'.cell y1; go_simp) ?_
  refine wpM_norm (fun K hK => ?_); go_simp; refine hK _ ?_; clear hK K
  refine wpM_l _ rfl (fun w' hw' hk => ?_) (fun v55 => ?_)
  · have hm := monoSt _ _ _ _ hw' H5.out
    clear hk
    unfold makes
    go_simp
    exact ⟨Ext.refl _, (refWrite_keeps sa sb sd se s x y w' _ (rd_of_st hm) HB1.out HB2.out).gives⟩
  refine wpM_norm (fun K hK => ?_); go_simp; refine hK _ ?_; clear hK K
  refine wpM_x _ rfl (fun w' hw' hk => ?_) ?_
  · obtain ⟨z0, z1, z2, z3, rfl, g1⟩ := agg_st (show Agg elSt (writeSt s (x, y)) v52 w' from hk 52 (by decide))
    obtain ⟨z4, z5, z6, z7, rfl, g2⟩ := agg_st (show Agg elSt (writeSt s (x, y)) v55 w' from hk 55 (by decide))
    clear hk
    unfold makes
    go_simp
    exact ⟨Ext.refl _, gives_exts (sameStore_eq z0 z1 z2 z3 z4 z5 z6 z7 _ w' g1 g2)⟩
  refine wpM_norm (fun K hK => ?_); go_simp; refine hK _ ?_; clear hK K
  iterate 2 (refine wpM_p (fun K hK => ?_); go_simp; first | refine hK _ ?_ | refine ⟨(fun h => by cases h), hK _ ?_⟩; clear hK K)
  refine wpM_q ((.agg #[sa, sb, sd, se])) rfl (fun w' hw' => by have q0 := hw'.cell x0; have q1 := hw'.cell x1; have q2 := hw'.cell x2; have q3 := hw'.cell x3; go_simp) ?_
  refine wpM_norm (fun K hK => ?_); go_simp; refine hK _ ?_; clear hK K
  refine wpM_q ((.agg #[I rc, I rt, I rk, I ra, I ro, I rn])) rfl (fun w' hw' => by have q0 := hw'.cell r0; have q1 := hw'.cell r1; have q2 := hw'.cell r2; have q3 := hw'.cell r3; have q4 := hw'.cell r4; have q5 := hw'.cell r5; go_simp) ?_
  refine wpM_norm (fun K hK => ?_); go_simp; refine hK _ ?_; clear hK K
  refine wpM_q ((.agg #[I xe, I xn])) rfl (fun w' hw' => by have q0 := hw'.cell p0; have q1 := hw'.cell p1; go_simp) ?_
  refine wpM_norm (fun K hK => ?_); go_simp; refine hK _ ?_; clear hK K
  refine wpM_l _ rfl (fun w' hw' hk => ?_) (fun v62 => ?_)
  · have hm := monoSt _ _ _ _ hw' H5.out
    clear hk
    unfold makes
    go_simp
    exact ⟨Ext.refl _, (Commit_any sa sb sd se s rc rt rk ra ro rn xe xn w' hm HS.out).gives⟩
  refine wpM_norm (fun K hK => ?_); go_simp; refine hK _ ?_; clear hK K
  refine wpM_q ((.agg #[sa, sb, sd, se])) rfl (fun w' hw' => by have q0 := hw'.cell x0; have q1 := hw'.cell x1; have q2 := hw'.cell x2; have q3 := hw'.cell x3; go_simp) ?_
  refine wpM_norm (fun K hK => ?_); go_simp; refine hK _ ?_; clear hK K
  refine wpM_q ((.agg #[I rc, I rt, I rk, I ra, I ro, I rn])) rfl (fun w' hw' => by have q0 := hw'.cell r0; have q1 := hw'.cell r1; have q2 := hw'.cell r2; have q3 := hw'.cell r3; have q4 := hw'.cell r4; have q5 := hw'.cell r5; go_simp) ?_
  refine wpM_norm (fun K hK => ?_); go_simp; refine hK _ ?_; clear hK K
  refine wpM_q ((.agg #[I xe, I xn])) rfl (fun w' hw' => by have q0 := hw'.cell p0; have q1 := hw'.cell p1; go_simp) ?_
  refine wpM_norm (fun K hK => ?_); go_simp; refine hK _ ?_; clear hK K
  refine wpM_l _ rfl (fun w' hw' hk => ?_) (fun v66 => ?_)
  · have hm := monoSt _ _ _ _ hw' H5.out
    clear hk
    unfold makes
    go_simp
    exact ⟨Ext.refl _, (refCommit_keeps sa sb sd se s rc rt rk ra ro rn xe xn w' _ (rd_of_st hm) HB3.out HB4.out).gives⟩
  refine wpM_norm (fun K hK => ?_); go_simp; refine hK _ ?_; clear hK K
  refine wpM_x _ rfl (fun w' hw' hk => ?_) ?_
  · obtain ⟨z0, z1, z2, z3, rfl, g1⟩ := agg_st (show Agg elSt (commitSt s ⟨rc, rt, ⟨rk, ra, ro, rn⟩⟩ ⟨xe, xn⟩) v62 w' from hk 62 (by decide))
    obtain ⟨z4, z5, z6, z7, rfl, g2⟩ := agg_st (show Agg elSt (commitSt s ⟨rc, rt, ⟨rk, ra, ro, rn⟩⟩ ⟨xe, xn⟩) v66 w' from hk 66 (by decide))
    clear hk
    unfold makes
    go_simp
    exact ⟨Ext.refl _, gives_exts (sameStore_eq z0 z1 z2 z3 z4 z5 z6 z7 _ w' g1 g2)⟩
  refine wpM_norm (fun K hK => ?_); go_simp; refine hK _ ?_; clear hK K
  iterate 2 (refine wpM_p (fun K hK => ?_); go_simp; first | refine hK _ ?_ | refine ⟨(fun h => by cases h), hK _ ?_⟩; clear hK K)
  refine wpM_q ((.agg #[sa, sb, sd, se])) rfl (fun w' hw' => by have q0 := hw'.cell x0; have q1 := hw'.cell x1; have q2 := hw'.cell x2; have q3 := hw'.cell x3; go_simp) ?_
  refine wpM_norm (fun K hK => ?_); go_simp; refine hK _ ?_; clear hK K
  refine wpM_l _ rfl (fun w' hw' hk => ?_) (fun v71 => ?_)
  · have hm := monoSt _ _ _ _ hw' H5.out
    clear hk
    unfold makes
    go_simp
    exact ⟨Ext.refl _, (Back_any sa sb sd se s w' hm HS.out).gives⟩
  refine wpM_norm (fun K hK => ?_); go_simp; refine hK _ ?_; clear hK K
  refine wpM_q ((.agg #[sa, sb, sd, se])) rfl (fun w' hw' => by have q0 := hw'.cell x0; have q1 := hw'.cell x1; have q2 := hw'.cell x2; have q3 := hw'.cell x3; go_simp) ?_
  refine wpM_norm (fun K hK => ?_); go_simp; refine hK _ ?_; clear hK K
  refine wpM_l _ rfl (fun w' hw' hk => ?_) (fun v73 => ?_)
  · have hm := monoSt _ _ _ _ hw' H5.out
    clear hk
    unfold makes
    go_simp
    exact ⟨Ext.refl _, (refBack_keeps sa sb sd se s w' _ (rd_of_st hm) HB1.out).gives⟩
  refine wpM_norm (fun K hK => ?_); go_simp; refine hK _ ?_; clear hK K
  refine wpM_x _ rfl (fun w' hw' hk => ?_) ?_
  · obtain ⟨z0, z1, z2, z3, rfl, g1⟩ := agg_st (show Agg elSt (backSt s) v71 w' from hk 71 (by decide))
    obtain ⟨z4, z5, z6, z7, rfl, g2⟩ := agg_st (show Agg elSt (backSt s) v73 w' from hk 73 (by decide))
    clear hk
    unfold makes
    go_simp
    exact ⟨Ext.refl _, gives_exts (sameStore_eq z0 z1 z2 z3 z4 z5 z6 z7 _ w' g1 g2)⟩
  refine wpM_norm (fun K hK => ?_); go_simp; refine hK _ ?_; clear hK K
  iterate 2 (refine wpM_p (fun K hK => ?_); go_simp; first | refine hK _ ?_ | refine ⟨(fun h => by cases h), hK _ ?_⟩; clear hK K)
  refine wpM_nil ?_
  intro w6 e6 _
  clear x0 x1 x2 x3 y0 y1 r0 r1 r2 r3 r4 r5 p0 p1 l0 l1 l2 l3 m0 m1 m2 m3
  go_wp2
  go_ret
  exact ⟨rfl, (e0.trans e5).trans e6⟩

end Go.Proofs.Ytdmipnnfoolelac

namespace Go.Proofs.Ytdmipnnfoolelac
open Go.RowKit Go.Mk

theorem new_w1 : writeSt newSt (1, 7) = ⟨[0, 7, 0, 0, 0, 0, 0, 0, 0, 0, 0], [(1, 0)], [], []⟩ := rfl
theorem new_w2 : writeSt ⟨[0, 7, 0, 0, 0, 0, 0, 0, 0, 0, 0], [(1, 0)], [], []⟩ (1, 8) = ⟨[0, 8, 0, 0, 0, 0, 0, 0, 0, 0, 0], [(1, 7), (1, 0)], [], []⟩ := rfl
theorem new_b2 : backSt ⟨[0, 8, 0, 0, 0, 0, 0, 0, 0, 0, 0], [(1, 7), (1, 0)], [], []⟩ = ⟨[0, 0, 0, 0, 0, 0, 0, 0, 0, 0, 0], [], [], []⟩ := rfl
theorem new_c2 : commitSt ⟨[0, 8, 0, 0, 0, 0, 0, 0, 0, 0, 0], [(1, 7), (1, 0)], [], []⟩ ⟨1, 2, ⟨0, 0, 0, 0⟩⟩ ⟨0, 4⟩ = ⟨[0, 8, 0, 0, 0, 0, 0, 0, 0, 0, 0], [], [⟨1, 2, ⟨0, 4⟩⟩], [⟨1, 2, ⟨0, 0, 0, 0⟩⟩]⟩ := rfl
theorem new_l2 : lastAn [⟨1, 2, ⟨0, 4⟩⟩] 1 = (⟨1, 2, ⟨0, 4⟩⟩, true) := rfl

theorem field_answers (a b d e : Value) (w : World) : (Instr.field 48 (.agg #[a, b, d, e]) 2).run Try.prog w = .ok d w := by kernel_rfl

set_option maxRecDepth 100000 in
set_option maxHeartbeats 4000000 in
theorem aliveStore_any (w : World) : Gives Try.prog 34 #[] w fun r _ => r = .bool true := by
  refine gives_exts ?_
  go_enter Try.func34, Try.ntmps34
  go_wp2_with fail
  refine (newStore_any w).to fun r w1 e1 hr => ?_
  obtain ⟨a0, b0, d0, f0, rfl, h0⟩ := agg_st hr.out
  clear hr
  go_wp2_with fail
  refine (Write_any a0 b0 d0 f0 newSt 1 7 w1 h0 (by unfold Small; decide)).to fun r w2 e2 hr => ?_
  rw [new_w1] at hr
  obtain ⟨a1, b1, d1, f1, rfl, h1⟩ := agg_st hr.out
  clear hr h0
  go_wp2_with fail
  refine (Write_any a1 b1 d1 f1 _ 1 8 w2 h1 (by unfold Small; decide)).to fun r w3 e3 hr => ?_
  rw [new_w2] at hr
  obtain ⟨a2, b2, d2, f2, rfl, h2⟩ := agg_st hr.out
  clear hr h1
  have H2 := Lib.hid h2
  obtain ⟨i1, i2, i3, i4⟩ := st_iff.1 h2
  obtain ⟨ca, cc, rfl, -, -, c2⟩ := i1.form
  obtain ⟨ua, uc, rfl⟩ := row_slice i2
  obtain ⟨aa, ac, rfl⟩ := rowOf_slice i3
  obtain ⟨pa, pc, rfl⟩ := rowOf_slice i4
  simp only [List.length_cons, List.length_nil, Nat.reduceAdd] at H2
  have g2 := c2 1 (by decide)
  clear h2 i1 i2 i3 i4 c2
  obtain ⟨xb, xo, rfl, g2⟩ := g2
  have e4 : Ext w w3 := (e1.trans e2).trans e3
  clear e1 e2 e3
  go_wp2_with fail
  generalize hs2 : Obj.cells #[.slice (some ⟨xb, xo, none⟩) 11 cc, .slice ua 2 uc, .slice aa 0 ac, .slice pa 0 pc] 48 = o2 at *
  have HS2 := Lib.hid hs2
  clear hs2
  refine (Back_any _ _ _ _ _ _ (monoSt _ _ _ _ ((Ext.refl w3).alloc o2) H2.out) (by unfold Small; decide)).to fun r w4 e5 hr => ?_
  rw [new_b2] at hr
  obtain ⟨a3, b3, d3, f3, rfl, h3⟩ := agg_st hr.out
  clear hr
  obtain ⟨i1, i2, i3, i4⟩ := st_iff.1 h3
  obtain ⟨da, dc, rfl, -, -, c3⟩ := i1.form
  obtain ⟨va, vc, rfl⟩ := row_slice i2
  obtain ⟨ba, bc, rfl⟩ := rowOf_slice i3
  obtain ⟨qa, qc, rfl⟩ := rowOf_slice i4
  have g3 := c3 1 (by decide)
  clear h3 i1 i2 i3 i4 c3
  obtain ⟨yb, yo, rfl, g3⟩ := g3
  have k2 := block_of (heap_alloc_new w3 o2) e5
  rw [← HS2.out] at k2
  have e6 : Ext w3 w4 := ((Ext.refl w3).alloc o2).trans e5
  clear e5
  generalize hs3 : Obj.cells #[.slice (some ⟨yb, yo, none⟩) 11 dc, .slice va 0 vc, .slice ba 0 bc, .slice qa 0 qc] 48 = o3 at *
  have HS3 := Lib.hid hs3
  have K2 := Lib.hid (block_of k2 ((Ext.refl w4).alloc o3))
  clear k2
  obtain ⟨x0, x1, x2, x3, -⟩ := box4 K2.out
  rw [← hs3] at x0 x1 x2 x3
  clear hs3
  go_wp2_with fail
  rw [HS3.out]
  clear x0 x1 x2 x3
  refine (Commit_any _ _ _ _ _ _ _ _ _ _ _ _ _ _ (monoSt _ _ _ _ (e6.alloc o3) H2.out) (by unfold Small; decide)).to fun r w5 e7 hr => ?_
  rw [new_c2] at hr
  obtain ⟨a4, b4, d4, f4, rfl, h4⟩ := agg_st hr.out
  clear hr
  have H4 := Lib.hid h4
  obtain ⟨i1, i2, i3, i4⟩ := st_iff.1 h4
  obtain ⟨ea, ec, rfl, -, -, c4⟩ := i1.form
  obtain ⟨ta, tc, rfl⟩ := row_slice i2
  obtain ⟨ma, mc, rfl⟩ := rowOf_slice i3
  obtain ⟨na, nc, rfl⟩ := rowOf_slice i4
  simp only [List.length_cons, List.length_nil, Nat.reduceAdd] at H4
  have g4 := c4 1 (by decide)
  clear h4 i1 i2 i3 i4 c4
  obtain ⟨zb, zo, rfl, g4⟩ := g4
  go_wp2_with fail
  generalize hs4 : Obj.cells #[.slice (some ⟨zb, zo, none⟩) 11 ec, .slice ta 0 tc, .slice ma 1 mc, .slice na 1 nc] 48 = o4 at *
  have HS4 := Lib.hid hs4
  clear hs4
  have hl := Last_any _ _ _ _ _ 1 _ (monoSt _ _ _ _ ((Ext.refl w5).alloc o4) H4.out)
  rw [show lastAn (⟨[0, 8, 0, 0, 0, 0, 0, 0, 0, 0, 0], [], [⟨1, 2, ⟨0, 4⟩⟩], [⟨1, 2, ⟨0, 0, 0, 0⟩⟩]⟩ : St).answers 1 = (⟨1, 2, ⟨0, 4⟩⟩, true) from rfl] at hl
  refine Calls.exts hl (fun w6 e8 => ?_)
  clear hl
  have k4 := block_of (heap_alloc_new w5 o4) (e8.alloc (.cells #[I 1, I 2, I 0, I 4] 30))
  have k3 := block_of (heap_alloc_new w4 o3) ((e7.trans (((Ext.refl w5).alloc o4).trans e8)).alloc (.cells #[I 1, I 2, I 0, I 4] 30))
  have k2 := block_of K2.out ((e7.trans (((Ext.refl w5).alloc o4).trans e8)).alloc (.cells #[I 1, I 2, I 0, I 4] 30))
  rw [← HS4.out] at k4
  rw [← HS3.out] at k3
  have e9 : Ext w4 (w6.alloc (.cells #[I 1, I 2, I 0, I 4] 30)) := ((((Ext.refl w4).alloc o3).trans e7).trans (((Ext.refl w5).alloc o4).trans e8)).alloc _
  have e10 : Ext w5 (w6.alloc (.cells #[I 1, I 2, I 0, I 4] 30)) := (((Ext.refl w5).alloc o4).trans e8).alloc _
  have e11 := e6.trans e9
  replace g2 := e11.cell g2
  replace g3 := e9.cell g3
  replace g4 := e10.cell g4
  obtain ⟨x0, x1, x2, x3, -⟩ := box4 k2
  obtain ⟨y0, y1, y2, y3, -⟩ := box4 k3
  obtain ⟨z0, z1, z2, z3, -⟩ := box4 k4
  have H5 := Lib.hid (monoSt _ _ _ _ e10 H4.out)
  have E11 := Lib.hid (e4.trans e11)
  clear k2 k3 k4 e4 e6 e7 e8 e9 e10 e11
  go_wp2_with fail
  refine (Own_any _ _ _ _ _ _ H5.out (by unfold Small; decide)).to fun r w7 e12 hr => ?_
  obtain ⟨a5, b5, d5, f5, rfl, h5⟩ := hr
  obtain ⟨oa, oc, rfl⟩ := own_slice h5.cells
  obtain ⟨ob, od, rfl⟩ := own_slice h5.undo
  obtain ⟨oe, of_, rfl⟩ := own_slice h5.answers
  obtain ⟨og, oh, rfl⟩ := own_slice h5.past
  clear h5 x0 x1 x2 x3 y0 y1 y2 y3 z0 z1 z2 z3
  have hfld := fun wx => field_answers (Value.slice oa 11 oc) (Value.slice ob 0 od) (Value.slice oe 1 of_) (Value.slice og 1 oh) wx
  go_wp2
  go_ret
  exact ⟨rfl, E11.out.trans e12⟩

end Go.Proofs.Ytdmipnnfoolelac

namespace Go.Proofs.Ytdmipnnfoolelac
open Go.RowKit Go.Mk

set_option maxRecDepth 100000 in
set_option maxHeartbeats 8000000 in
theorem StoreLast_any (sa sb sd se : Value) (s : St) (rc rt rk ra ro rn : Int) (q : Int × Int) (client : Int) (w : World) (h : elSt w [sa, sb, sd, se] s) :
    Gives Try.prog 7 #[.agg #[sa, sb, sd, se], .agg #[I rc, I rt, I rk, I ra, I ro, I rn], .agg #[I q.1, I q.2], I client] w fun r _ => r = .bool true := by
  refine gives_exts ?_
  obtain ⟨xe, xn⟩ := q
  simp only []
  have hst : Try.prog.stoodInHeld 30 = false := by kernel_rfl
  have hgd : Try.prog.eqGuardType Try.prog.depth 30 = false := by kernel_rfl
  have H := Lib.hid h
  clear h
  have e0 : Ext w (((w.alloc (.cells #[sa, sb, sd, se] 48)).alloc (.cells #[I rc, I rt, I rk, I ra, I ro, I rn] 25)).alloc (.cells #[I xe, I xn] 28)) := (((Ext.refl w).alloc _).alloc _).alloc _
  have HB := Lib.hid (fun wx (h : Ext (((w.alloc (.cells #[sa, sb, sd, se] 48)).alloc (.cells #[I rc, I rt, I rk, I ra, I ro, I rn] 25)).alloc (.cells #[I xe, I xn] 28)) wx) => third_block h)
  obtain ⟨⟨lc, lt, ⟨le, ln⟩⟩, LB, hL⟩ : ∃ LA LB, lastAn s.answers client = (LA, LB) := ⟨_, _, rfl⟩
  have HL := Lib.hid hL
  clear hL
  go_enter Try.func7, Try.ntmps7
  go_wp2_with fail
  generalize hw0 : ((w.alloc (.cells #[sa, sb, sd, se] 48)).alloc (.cells #[I rc, I rt, I rk, I ra, I ro, I rn] 25)).alloc (.cells #[I xe, I xn] 28) = w0 at *
  clear hw0
  refine (aliveStore_any w0).to fun r w1 e1 hr => ?_
  subst hr
  obtain ⟨b0, -⟩ := HB.out w1 e1
  obtain ⟨x0, x1, x2, x3, -⟩ := box4 b0
  go_wp2_with fail
  clear x0 x1 x2 x3 b0
  refine (refRightStore_any sa sb sd se s w1 (monoSt _ _ _ _ (e0.trans e1) H.out)).mono ?_
  rintro e w2 ⟨b, rfl, hb, e2⟩
  have HRT := Lib.hid hb
  clear hb
  replace e2 := e1.trans e2
  obtain ⟨b0, b1, b2⟩ := HB.out w2 e2
  obtain ⟨⟨r0, r1, r2, r3, r4, r5⟩, -⟩ := box6 b1
  cases b
  case false =>
    go_wp2
    go_ret
    exact ⟨rfl, e0.trans e2⟩
  by_cases hc : client = rc
  case pos =>
    have hbc : (client == rc) = true := by simpa using hc
    go_wp2
    go_ret
    exact ⟨rfl, e0.trans e2⟩
  have hbc : (client == rc) = false := by simpa using hc
  have HC := Lib.hid hc
  clear hc
  have hR := HRT.out rfl
  have HS := Lib.hid (small_of hR)
  clear hR HRT
  obtain ⟨x0, x1, x2, x3, -⟩ := box4 b0
  go_wp2_with fail
  clear x0 x1 x2 x3 b0 b1 b2 r0 r1 r2 r3 r4 r5
  have hl := Last_any sa sb sd se s client w2 (monoSt _ _ _ _ (e0.trans e2) H.out)
  rw [HL.out] at hl
  refine Calls.exts hl (fun w3 e3 => ?_)
  clear hl
  replace e3 := e2.trans e3
  obtain ⟨b0, b1, b2⟩ := HB.out _ (e3.alloc (.cells #[I lc, I lt, I le, I ln] 30))
  obtain ⟨x0, x1, x2, x3, -⟩ := box4 b0
  obtain ⟨⟨r0, r1, r2, r3, r4, r5⟩, -⟩ := box6 b1
  obtain ⟨p0, p1, -⟩ := box2 b2
  go_wp2_with fail
  clear x0 x1 x2 x3 b0 b1 b2 r0 r1 r2 r3 r4 r5 p0 p1
  refine (Commit_any sa sb sd se s rc rt rk ra ro rn xe xn _ (monoSt _ _ _ _ (e0.trans (e3.alloc (.cells #[I lc, I lt, I le, I ln] 30))) H.out) HS.out).to fun r w4 e4 hr => ?_
  obtain ⟨z0, z1, z2, z3, rfl, h4⟩ := agg_st hr.out
  clear hr
  go_wp2_with fail
  have hl := Last_any z0 z1 z2 z3 _ client w4 h4
  rw [last_commit s ⟨rc, rt, ⟨rk, ra, ro, rn⟩⟩ ⟨xe, xn⟩ client HC.out, HL.out] at hl
  refine Calls.exts hl (fun w5 e5 => ?_)
  clear hl h4
  have b9 := block_of (heap_alloc_new w3 (.cells #[I lc, I lt, I le, I ln] 30)) (e4.trans e5)
  replace e5 := (e3.alloc (.cells #[I lc, I lt, I le, I ln] 30)).trans (e4.trans e5)
  clear e4
  obtain ⟨b0, b1, b2⟩ := HB.out _ (e5.alloc (.cells #[I lc, I lt, I le, I ln] 30))
  obtain ⟨x0, x1, x2, x3, -⟩ := box4 b0
  go_wp2_with fail
  clear x0 x1 x2 x3 b0 b1 b2
  refine (Back_any sa sb sd se s _ (monoSt _ _ _ _ (e0.trans (e5.alloc (.cells #[I lc, I lt, I le, I ln] 30))) H.out) HS.out).to fun r w6 e6 hr => ?_
  obtain ⟨z0, z1, z2, z3, rfl, h6⟩ := agg_st hr.out
  clear hr
  go_wp2_with fail
  have hl := Last_any z0 z1 z2 z3 _ client w6 h6
  rw [show (backSt s).answers = s.answers from rfl, HL.out] at hl
  refine Calls.exts hl (fun w7 e7 => ?_)
  clear hl h6
  have k9 := block_of b9 ((((Ext.refl w5).alloc (.cells #[I lc, I lt, I le, I ln] 30)).trans (e6.trans e7)).alloc (.cells #[I lc, I lt, I le, I ln] 30))
  have k11 := block_of (heap_alloc_new w5 (.cells #[I lc, I lt, I le, I ln] 30)) ((e6.trans e7).alloc (.cells #[I lc, I lt, I le, I ln] 30))
  have k13 := heap_alloc_new w7 (.cells #[I lc, I lt, I le, I ln] 30)
  replace e7 := ((e5.alloc (.cells #[I lc, I lt, I le, I ln] 30)).trans (e6.trans e7)).alloc (.cells #[I lc, I lt, I le, I ln] 30)
  clear b9 e5 e6
  obtain ⟨x0, x1, x2, x3, -⟩ := box4 k9
  obtain ⟨y0, y1, y2, y3, -⟩ := box4 k11
  obtain ⟨z0, z1, z2, z3, -⟩ := box4 k13
  clear k9 k11 k13
  go_wp2
  go_ret
  exact ⟨rfl, e0.trans e7⟩

end Go.Proofs.Ytdmipnnfoolelac

namespace Go.Proofs.Ytdmipnnfoolelac
open Go.RowKit Go.Mk

theorem fold_facts : ∀ (l : List (Int × Int)) (s : St), (l.foldl writeSt s).cells.length = s.cells.length ∧ (l.foldl writeSt s).undo.length ≤ s.undo.length + l.length ∧ (l.foldl writeSt s).answers = s.answers ∧ (l.foldl writeSt s).past = s.past
  | [], s => ⟨rfl, by simp, rfl, rfl⟩
  | p :: l, s => by
    obtain ⟨h1, h2, h3, h4⟩ := fold_facts l (writeSt s p)
    have hu : (writeSt s p).undo.length ≤ s.undo.length + 1 ∧ (writeSt s p).answers = s.answers ∧ (writeSt s p).past = s.past := by
      unfold writeSt
      split
      · exact ⟨by simp, rfl, rfl⟩
      · exact ⟨by omega, rfl, rfl⟩
    rw [List.foldl_cons, h1, h3, h4, length_write]
    refine ⟨rfl, ?_, hu.2.1, hu.2.2⟩
    rw [List.length_cons]
    omega
theorem small_fold {s : St} (h : rightSt s) (l : List (Int × Int)) (hl : l.length ≤ 50) : Small (l.foldl writeSt s) := by
  obtain ⟨h1, _, h3, h4, h5, _⟩ := h
  obtain ⟨g1, g2, g3, g4⟩ := fold_facts l s
  unfold Small
  rw [g1, g3, g4]
  omega
theorem small_commit {s : St} (h : Small s) (hu : s.answers.length ≤ 1000) (hp : s.past.length ≤ 1000) (r : Rq) (y : Rp) : Small (commitSt s r y) := by
  have := length_putAn s.answers ⟨r.client, r.token, y⟩
  unfold Small commitSt at *
  simp only [List.length_append, List.length_cons, List.length_nil]
  omega
theorem rd_of_st' {w : World} {cs : List Value} {s : St} {g : Nat} (h : elSt w cs s) (hg : w.heap.size ≤ g) : Rd (fun j => j ≠ g) (fun w => elSt w cs s) w := (rd_of_st h).widen (fun k hk _ => by omega)

set_option maxRecDepth 100000 in
set_option maxHeartbeats 8000000 in
theorem StoreBack_any (v : Value) (sa sb sd se : Value) (s : St) (l : List (Int × Int)) (rc rt rk ra ro rn : Int) (q : Int × Int) (w : World) (h : elSt w [sa, sb, sd, se] s) (hl : Writes w v l) :
    Gives Try.prog 8 #[.agg #[sa, sb, sd, se], v, .agg #[I rc, I rt, I rk, I ra, I ro, I rn], .agg #[I q.1, I q.2]] w fun r _ => r = .bool true := by
  refine gives_exts ?_
  obtain ⟨xe, xn⟩ := q
  simp only []
  have hst : Try.prog.stoodInHeld 30 = false := by kernel_rfl
  have hgd : Try.prog.eqGuardType Try.prog.depth 30 = false := by kernel_rfl
  obtain ⟨h1, h2, h3, h4⟩ := st_iff.1 h
  obtain ⟨ca, cc, rfl⟩ := row_slice h1
  obtain ⟨ua, uc, rfl⟩ := row_slice h2
  obtain ⟨aa, ac, rfl⟩ := rowOf_slice h3
  obtain ⟨pa, pc, rfl⟩ := rowOf_slice h4
  clear h1 h2 h3 h4
  obtain ⟨lo, lcap, rfl, g1, g2, g3⟩ := hl.form
  unfold maxLen at g2
  clear hl
  have G3 := Lib.hid g3
  clear g3
  have H := Lib.hid h
  clear h
  have e0 : Ext w (((w.alloc (.cells #[.slice ca s.cells.length cc, .slice ua s.undo.length uc, .slice aa s.answers.length ac, .slice pa s.past.length pc] 48)).alloc (.cells #[I rc, I rt, I rk, I ra, I ro, I rn] 25)).alloc (.cells #[I xe, I xn] 28)) := (((Ext.refl w).alloc _).alloc _).alloc _
  have HB := Lib.hid (fun wx (h : Ext (((w.alloc (.cells #[.slice ca s.cells.length cc, .slice ua s.undo.length uc, .slice aa s.answers.length ac, .slice pa s.past.length pc] 48)).alloc (.cells #[I rc, I rt, I rk, I ra, I ro, I rn] 25)).alloc (.cells #[I xe, I xn] 28)) wx) => third_block h)
  go_enter Try.func8, Try.ntmps8
  go_wp2_with fail
  generalize hw0 : ((w.alloc (.cells #[.slice ca s.cells.length cc, .slice ua s.undo.length uc, .slice aa s.answers.length ac, .slice pa s.past.length pc] 48)).alloc (.cells #[I rc, I rt, I rk, I ra, I ro, I rn] 25)).alloc (.cells #[I xe, I xn] 28) = w0 at *
  clear hw0
  refine (aliveStore_any w0).to fun r w1 e1 hr => ?_
  subst hr
  obtain ⟨b0, -⟩ := HB.out w1 e1
  obtain ⟨x0, x1, x2, x3, -⟩ := box4 b0
  go_wp2_with fail
  clear x0 x1 x2 x3 b0
  refine (refRightStore_any _ _ _ _ s w1 (monoSt _ _ _ _ (e0.trans e1) H.out)).mono ?_
  rintro e w2 ⟨b, rfl, hb, e2⟩
  have HRT := Lib.hid hb
  clear hb
  replace e2 := e1.trans e2
  cases b
  case false =>
    go_wp2
    go_ret
    exact ⟨rfl, e0.trans e2⟩
  by_cases hlen : l.length ≤ 50
  case neg =>
    have hl2 : (50 : Int) < (l.length : Int) := by omega
    go_wp2
    go_ret
    exact ⟨rfl, e0.trans e2⟩
  have hl2 : ¬ ((50 : Int) < (l.length : Int)) := by omega
  have hR := HRT.out rfl
  have HS := Lib.hid (small_of hR)
  have HSF := Lib.hid (fun k => small_fold hR (l.take k) (by rw [List.length_take]; omega))
  have HAL : Hid (s.answers.length ≤ 3 ∧ s.past.length ≤ 100) := ⟨hR.2.2.2.1, hR.2.2.2.2.1⟩
  clear hR HRT hlen
  obtain ⟨b0, -⟩ := HB.out w2 e2
  obtain ⟨x0, x1, x2, x3, -⟩ := box4 b0
  go_wp2_with fail
  clear x0 x1 x2 x3 b0 hl2
  obtain ⟨g, hg⟩ : ∃ g, g = w2.heap.size := ⟨_, rfl⟩
  have bg : (w2.alloc (.cells #[.slice ca s.cells.length cc, .slice ua s.undo.length uc, .slice aa s.answers.length ac, .slice pa s.past.length pc] 48)).heap[g]? = some (.cells #[.slice ca s.cells.length cc, .slice ua s.undo.length uc, .slice aa s.answers.length ac, .slice pa s.past.length pc] 48) := by rw [hg]; exact heap_alloc_new _ _
  have rg : Rd (fun j => j ≠ g) (fun w => elSt w [.slice ca s.cells.length cc, .slice ua s.undo.length uc, .slice aa s.answers.length ac, .slice pa s.past.length pc] s) (w2.alloc (.cells #[.slice ca s.cells.length cc, .slice ua s.undo.length uc, .slice aa s.answers.length ac, .slice pa s.past.length pc] 48)) := (rd_of_st' (monoSt _ _ _ _ (e0.trans e2) H.out) (Nat.le_of_eq hg.symm)).ext ((Ext.refl w2).alloc _)
  rw [← hg]
  have HG := Lib.hid hg
  have BG := Lib.hid bg
  have RG := Lib.hid rg
  clear hg bg rg
  go_loopw [28] (fun i wr => ∃ (k : Nat) (a b d e : Value), k ≤ l.length ∧ i = I k ∧ wr.heap[g]? = some (.cells #[a, b, d, e] 48 (0, 0)) ∧ Rd (fun j => j ≠ g) (fun w => elSt w [a, b, d, e] ((l.take k).foldl writeSt s)) wr ∧ Ext w2 wr) (fun i _ => l.length - (intOf i).toNat)
  case atStart => exact ⟨0, _, _, _, _, by omega, rfl, BG.out, RG.out, (Ext.refl w2).alloc _⟩
  case round =>
    obtain ⟨k, xa, xb, xd, xf, hk, rfl, hblk, hrd, he⟩ := hrel
    have hgl : g < wr.heap.size := (Array.getElem?_eq_some_iff.1 hblk).1
    have ew : Ext w0 wr := e2.trans he
    obtain ⟨X, hX⟩ : ∃ X, (l.take k).foldl writeSt s = X := ⟨_, rfl⟩
    have HSX0 := HSF.out k
    rw [hX] at hrd HSX0
    obtain ⟨_, _, _, _, hcs, r1, r2, r3, r4⟩ := rd_st hrd
    simp only [List.cons.injEq, and_true] at hcs
    obtain ⟨rfl, rfl, rfl, rfl⟩ := hcs
    obtain ⟨xca, xcc, rfl⟩ := row_slice r1.out
    obtain ⟨xua, xuc, rfl⟩ := row_slice r2.out
    obtain ⟨xaa, xac, rfl⟩ := rowOf_slice r3.out
    obtain ⟨xpa, xpc, rfl⟩ := rowOf_slice r4.out
    have HSX := Lib.hid HSX0
    have HXE := Lib.hid hX
    have HRD := Lib.hid hrd
    have HBLK := Lib.hid hblk
    clear r1 r2 r3 r4 hX HSX0 hrd hblk
    by_cases hlt : k < l.length
    · obtain ⟨pb, po, rfl, c1, c2⟩ := G3.out k hlt
      replace c1 := (e0.trans ew).cell c1
      replace c2 := (e0.trans ew).cell c2
      have HT : Hid ((l.take (k + 1)).foldl writeSt s = writeSt X (l.getD k (0, 0))) := by
        unfold Hid
        rw [List.take_add_one, List.getElem?_eq_getElem hlt, List.foldl_append, HXE.out, List.getD_eq_getElem?_getD, List.getElem?_eq_getElem hlt]
        rfl
      generalize l.getD k (0, 0) = pp at *
      obtain ⟨p1, p2⟩ := pp
      simp only [] at c1 c2
      have bz := block_of HBLK.out ((Ext.refl wr).alloc (.cells #[I p1, I p2] 50))
      obtain ⟨x0, x1, x2, x3, f0, f1, f2, f3⟩ := box4 bz
      go_wp2_with fail
      clear x0 x1 x2 x3 f0 f1 f2 f3 c1 c2
      refine (Write_any _ _ _ _ X p1 p2 _ (monoSt _ _ _ _ ((Ext.refl wr).alloc _) HRD.out.out) HSX.out).to fun r w4 e4 hr => ?_
      obtain ⟨cs, rfl, hcs⟩ := rd_agg hr
      obtain ⟨a', b', d', f', rfl, r1, r2, r3, r4⟩ := rd_st hcs
      obtain ⟨ka, kc, rfl⟩ := row_slice r1.out
      obtain ⟨la, lc, rfl⟩ := row_slice r2.out
      obtain ⟨ma, mc, rfl⟩ := rowOf_slice r3.out
      obtain ⟨na, nc, rfl⟩ := rowOf_slice r4.out
      have hcs2 := hcs.widen (B := fun j => j ≠ g) (fun j _ h => by
        rcases h with h | h
        · exact h.elim
        · simp at h; omega)
      have HCS := Lib.hid hcs2
      clear hr r1 r2 r3 r4 hcs hcs2
      have b4 := block_of bz e4
      obtain ⟨y0, y1, y2, y3, g0, g1', g2', g3'⟩ := box4 b4
      go_wp2
      clear y0 y1 y2 y3 g0 g1' g2' g3'
      go_roundw
      case rel =>
        refine ⟨k + 1, _, _, _, _, by omega, by go_num, set4 b4 _ _ _ _, ?_, ext_set4 (he.trans (((Ext.refl wr).alloc _).trans e4)) (Nat.le_of_eq HG.out.symm) _ _ _ _⟩
        rw [HT.out]
        exact HCS.out.set4 (fun h => h rfl) _ _ _ _
      case measure => simp [intOf]; omega
    · have hkl : k = l.length := by omega
      subst hkl
      have hX2 := HXE.out
      rw [List.take_length] at hX2
      have HBX : Hid (backSt X = backSt s) := by unfold Hid; rw [← hX2]; exact back_writes l s
      have HXA : Hid (X.answers.length ≤ 1000 ∧ X.past.length ≤ 1000) := by
        unfold Hid
        obtain ⟨_, _, q3, q4⟩ := fold_facts l s
        rw [← hX2, q3, q4]
        have := HAL.out
        omega
      clear hX2
      have HX := Lib.hid (HRD.out.out)
      have HSS := Lib.hid (monoSt _ _ _ _ (e0.trans ew) H.out)
      obtain ⟨b0, b1, b2⟩ := HB.out wr ew
      obtain ⟨x0, x1, x2, x3, -⟩ := box4 HBLK.out
      obtain ⟨y0, y1, y2, y3, -⟩ := box4 b0
      go_wp2_with fail
      refine wp_region_mono [none, some (.inr (Agg elSt (backSt s))), none, some (.inr (Agg elSt (backSt s))), some (.inl (.bool true)), none] (by kernel_rfl) (by kernel_rfl) ?_ ?_
      · exact ⟨trivial, monoAgg monoSt _, trivial, monoAgg monoSt _, trivial, trivial, trivial⟩
      refine wpM_q ((.agg #[.slice xca X.cells.length xcc, .slice xua X.undo.length xuc, .slice xaa X.answers.length xac, .slice xpa X.past.length xpc])) rfl (fun w' hw' => by have q0 := hw'.cell x0; have q1 := hw'.cell x1; have q2 := hw'.cell x2; have q3 := hw'.cell x3; go_simp) ?_
      refine wpM_norm (fun K hK => ?_); go_simp; refine hK _ ?_; clear hK K
      refine wpM_l _ rfl (fun w' hw' hk => ?_) (fun v37 => ?_)
      · have hg := (Back_any _ _ _ _ X w' (monoSt _ _ _ _ hw' HX.out) HSX.out).gives
        rw [HBX.out] at hg
        clear hk
        unfold makes
        go_simp
        exact ⟨Ext.refl _, hg⟩
      refine wpM_norm (fun K hK => ?_); go_simp; refine hK _ ?_; clear hK K
      refine wpM_q ((.agg #[.slice ca s.cells.length cc, .slice ua s.undo.length uc, .slice aa s.answers.length ac, .slice pa s.past.length pc])) rfl (fun w' hw' => by have q0 := hw'.cell y0; have q1 := hw'.cell y1; have q2 := hw'.cell y2; have q3 := hw'.cell y3; go_simp) ?_
      refine wpM_norm (fun K hK => ?_); go_simp; refine hK _ ?_; clear hK K
      refine wpM_l _ rfl (fun w' hw' hk => ?_) (fun v39 => ?_)
      · have hg := (Back_any _ _ _ _ s w' (monoSt _ _ _ _ hw' HSS.out) HS.out).gives
        clear hk
        unfold makes
        go_simp
        exact ⟨Ext.refl _, hg⟩
      refine wpM_norm (fun K hK => ?_); go_simp; refine hK _ ?_; clear hK K
      refine wpM_x _ rfl (fun w' hw' hk => ?_) ?_
      · obtain ⟨z0, z1, z2, z3, rfl, g1⟩ := agg_st (show Agg elSt (backSt s) v37 w' from hk 37 (by decide))
        obtain ⟨z4, z5, z6, z7, rfl, g2⟩ := agg_st (show Agg elSt (backSt s) v39 w' from hk 39 (by decide))
        clear hk
        unfold makes
        go_simp
        exact ⟨Ext.refl _, gives_exts (sameStore_eq z0 z1 z2 z3 z4 z5 z6 z7 _ w' g1 g2)⟩
      refine wpM_norm (fun K hK => ?_); go_simp; refine hK _ ?_; clear hK K
      iterate 1 (refine wpM_p (fun K hK => ?_); go_simp; first | refine hK _ ?_ | refine ⟨(fun h => by cases h), hK _ ?_⟩; clear hK K)
      refine wpM_nil ?_
      intro w5 e5 _
      clear x0 x1 x2 x3 y0 y1 y2 y3 b0 b1 b2
      have bk := block_of HBLK.out e5
      have ew5 := ew.trans e5
      obtain ⟨b0, b1, b2⟩ := HB.out w5 ew5
      obtain ⟨x0, x1, x2, x3, -⟩ := box4 bk
      obtain ⟨⟨r0, r1, r2, r3, r4, r5⟩, -⟩ := box6 b1
      obtain ⟨p0, p1, -⟩ := box2 b2
      go_wp2_with fail
      clear x0 x1 x2 x3 b0 b1 b2 r0 r1 r2 r3 r4 r5 p0 p1
      refine (Commit_any _ _ _ _ X rc rt rk ra ro rn xe xn w5 (monoSt _ _ _ _ e5 HX.out) HSX.out).to fun r w6 e6 hr => ?_
      obtain ⟨ya, yb, yd, yf, rfl, h6⟩ := agg_st hr.out
      clear hr
      obtain ⟨Y, hY⟩ : ∃ Y, commitSt X ⟨rc, rt, ⟨rk, ra, ro, rn⟩⟩ ⟨xe, xn⟩ = Y := ⟨_, rfl⟩
      have HSY0 := small_commit HSX.out HXA.out.1 HXA.out.2 ⟨rc, rt, ⟨rk, ra, ro, rn⟩⟩ ⟨xe, xn⟩
      have HBY0 := back_commit X ⟨rc, rt, ⟨rk, ra, ro, rn⟩⟩ ⟨xe, xn⟩
      have HYX0 : (commitSt X ⟨rc, rt, ⟨rk, ra, ro, rn⟩⟩ ⟨xe, xn⟩).cells = X.cells := rfl
      have HYL0 := last_mine X ⟨rc, rt, ⟨rk, ra, ro, rn⟩⟩ ⟨xe, xn⟩
      rw [hY] at h6 HSY0 HBY0 HYX0 HYL0
      clear hY
      obtain ⟨q1, q2, q3, q4⟩ := st_iff.1 h6
      obtain ⟨yca, ycc, rfl⟩ := row_slice q1
      obtain ⟨yua, yuc, rfl⟩ := row_slice q2
      obtain ⟨yaa, yac, rfl⟩ := rowOf_slice q3
      obtain ⟨ypa, ypc, rfl⟩ := rowOf_slice q4
      have HY := Lib.hid h6
      have HSY := Lib.hid HSY0
      have HBY := Lib.hid HBY0
      have HYX := Lib.hid HYX0
      have HYL := Lib.hid HYL0
      clear h6 q1 q2 q3 q4 HSY0 HBY0 HYX0 HYL0
      have e7 := e6.alloc (.cells #[.slice yca Y.cells.length ycc, .slice yua Y.undo.length yuc, .slice yaa Y.answers.length yac, .slice ypa Y.past.length ypc] 48)
      obtain ⟨b0, b1, b2⟩ := HB.out _ (ew5.trans e7)
      obtain ⟨⟨r0, r1, r2, r3, r4, r5⟩, -⟩ := box6 b1
      go_wp2_with fail
      clear b0 b1 b2 r0 r1 r2 r3 r4 r5
      have hll := Last_any _ _ _ _ Y rc _ (monoSt _ _ _ _ ((Ext.refl w6).alloc (.cells #[.slice yca Y.cells.length ycc, .slice yua Y.undo.length yuc, .slice yaa Y.answers.length yac, .slice ypa Y.past.length ypc] 48)) HY.out)
      rw [HYL.out] at hll
      refine Calls.exts hll (fun w8 e8 => ?_)
      clear hll
      have by_ := block_of (heap_alloc_new w6 (.cells #[.slice yca Y.cells.length ycc, .slice yua Y.undo.length yuc, .slice yaa Y.answers.length yac, .slice ypa Y.past.length ypc] 48)) (e8.alloc (.cells #[I rc, I rt, I xe, I xn] 30))
      have bl := heap_alloc_new w8 (.cells #[I rc, I rt, I xe, I xn] 30)
      have e9 : Ext w5 (w8.alloc (.cells #[I rc, I rt, I xe, I xn] 30)) := (e7.trans e8).alloc _
      have bx := block_of bk e9
      have HYY := Lib.hid (monoSt _ _ _ _ ((((Ext.refl w6).alloc (.cells #[.slice yca Y.cells.length ycc, .slice yua Y.undo.length yuc, .slice yaa Y.answers.length yac, .slice ypa Y.past.length ypc] 48)).trans e8).alloc (.cells #[I rc, I rt, I xe, I xn] 30)) HY.out)
      go_wp2_with fail
      generalize hw9 : w8.alloc (.cells #[I rc, I rt, I xe, I xn] 30) = w9 at *
      clear hw9
      have HXY := Lib.hid (monoSt _ _ _ _ (e5.trans e9) HX.out)
      obtain ⟨b0, b1, b2⟩ := HB.out _ (ew5.trans e9)
      obtain ⟨x0, x1, x2, x3, -⟩ := box4 bx
      obtain ⟨y0, y1, y2, y3, -⟩ := box4 by_
      obtain ⟨l0, l1, l2, l3, -⟩ := box4 bl
      obtain ⟨⟨r0, r1, r2, r3, r4, r5⟩, -⟩ := box6 b1
      obtain ⟨p0, p1, -⟩ := box2 b2
      clear b0 b1 b2 bx by_ bl bk
      refine wp_region_mono [none, some (.inr (Agg elSt (Y))), none, some (.inl (.bool true)), none, none, none, none, none, some (.inl (.bool true)), none, none, none, none, none, none, none, none, none, none, none, none, none, none, none] (by kernel_rfl) (by kernel_rfl) ?_ ?_
      · exact ⟨trivial, monoAgg monoSt _, trivial, trivial, trivial, trivial, trivial, trivial, trivial, trivial, trivial, trivial, trivial, trivial, trivial, trivial, trivial, trivial, trivial, trivial, trivial, trivial, trivial, trivial, trivial, trivial⟩
      refine wpM_q ((.agg #[.slice yca Y.cells.length ycc, .slice yua Y.undo.length yuc, .slice yaa Y.answers.length yac, .slice ypa Y.past.length ypc])) rfl (fun w' hw' => by have q0 := hw'.cell y0; have q1 := hw'.cell y1; have q2 := hw'.cell y2; have q3 := hw'.cell y3; go_simp) ?_
      refine wpM_norm (fun K hK => ?_); go_simp; refine hK _ ?_; clear hK K
      refine wpM_l _ rfl (fun w' hw' hk => ?_) (fun v54 => ?_)
      · have hg := (Back_any _ _ _ _ Y w' (monoSt _ _ _ _ hw' HYY.out) HSY.out).gives
        rw [HBY.out] at hg
        clear hk
        unfold makes
        go_simp
        exact ⟨Ext.refl _, hg⟩
      refine wpM_norm (fun K hK => ?_); go_simp; refine hK _ ?_; clear hK K
      refine wpM_q ((.agg #[.slice yca Y.cells.length ycc, .slice yua Y.undo.length yuc, .slice yaa Y.answers.length yac, .slice ypa Y.past.length ypc])) rfl (fun w' hw' => by have q0 := hw'.cell y0; have q1 := hw'.cell y1; have q2 := hw'.cell y2; have q3 := hw'.cell y3; go_simp) ?_
      refine wpM_norm (fun K hK => ?_); go_simp; refine hK _ ?_; clear hK K
      refine wpM_x _ rfl (fun w' hw' hk => ?_) ?_
      · obtain ⟨z0, z1, z2, z3, rfl, g1⟩ := agg_st (show Agg elSt Y v54 w' from hk 54 (by decide))
        clear hk
        unfold makes
        go_simp
        exact ⟨Ext.refl _, gives_exts (sameStore_eq z0 z1 z2 z3 _ _ _ _ _ w' g1 (monoSt _ _ _ _ hw' HYY.out))⟩
      refine wpM_norm (fun K hK => ?_); go_simp; refine hK _ ?_; clear hK K
      iterate 2 (refine wpM_p (fun K hK => ?_); go_simp; first | refine hK _ ?_ | refine ⟨(fun h => by cases h), hK _ ?_⟩; clear hK K)
      refine wpM_q ((.slice yca Y.cells.length ycc)) rfl (fun w' hw' => by have q0 := hw'.cell y0; go_simp) ?_
      refine wpM_norm (fun K hK => ?_); go_simp; refine hK _ ?_; clear hK K
      iterate 1 (refine wpM_p (fun K hK => ?_); go_simp; first | refine hK _ ?_ | refine ⟨(fun h => by cases h), hK _ ?_⟩; clear hK K)
      refine wpM_q ((.slice xca X.cells.length xcc)) rfl (fun w' hw' => by have q0 := hw'.cell x0; go_simp) ?_
      refine wpM_norm (fun K hK => ?_); go_simp; refine hK _ ?_; clear hK K
      refine wpM_x _ rfl (fun w' hw' hk => ?_) ?_
      · have g1 := (st_iff.1 (monoSt _ _ _ _ hw' HYY.out)).1
        have g2 := (st_iff.1 (monoSt _ _ _ _ hw' HXY.out)).1
        clear hk
        unfold makes
        go_simp
        exact ⟨Ext.refl _, sameInts_eq HYX.out g1 g2⟩
      refine wpM_norm (fun K hK => ?_); go_simp; refine hK _ ?_; clear hK K
      iterate 5 (refine wpM_p (fun K hK => ?_); go_simp; first | refine hK _ ?_ | refine ⟨(fun h => by cases h), hK _ ?_⟩; clear hK K)
      refine wpM_q ((.agg #[I rc, I rt, I xe, I xn])) rfl (fun w' hw' => by have q0 := hw'.cell l0; have q1 := hw'.cell l1; have q2 := hw'.cell l2; have q3 := hw'.cell l3; go_simp) ?_
      refine wpM_norm (fun K hK => ?_); go_simp; refine hK _ ?_; clear hK K
      iterate 1 (refine wpM_p (fun K hK => ?_); go_simp; first | refine hK _ ?_ | refine ⟨(fun h => by cases h), hK _ ?_⟩; clear hK K)
      refine wpM_q (I rc) rfl (fun w' hw' => by have q0 := hw'.cell r0; go_simp) ?_
      refine wpM_norm (fun K hK => ?_); go_simp; refine hK _ ?_; clear hK K
      iterate 1 (refine wpM_p (fun K hK => ?_); go_simp; first | refine hK _ ?_ | refine ⟨(fun h => by cases h), hK _ ?_⟩; clear hK K)
      refine wpM_q (I rt) rfl (fun w' hw' => by have q0 := hw'.cell r1; go_simp) ?_
      refine wpM_norm (fun K hK => ?_); go_simp; refine hK _ ?_; clear hK K
      refine wpM_q ((.agg #[I xe, I xn])) rfl (fun w' hw' => by have q0 := hw'.cell p0; have q1 := hw'.cell p1; go_simp) ?_
      refine wpM_norm (fun K hK => ?_); go_simp; refine hK _ ?_; clear hK K
      iterate 4 (refine wpM_p (fun K hK => ?_); go_simp; first | refine hK _ ?_ | refine ⟨(fun h => by cases h), hK _ ?_⟩; clear hK K)
      refine wpM_nil ?_
      intro w10 e10 _
      clear x0 x1 x2 x3 y0 y1 y2 y3 l0 l1 l2 l3 r0 r1 r2 r3 r4 r5 p0 p1
      go_wp2
      go_ret
      exact ⟨rfl, e0.trans ((ew5.trans e9).trans e10)⟩

end Go.Proofs.Ytdmipnnfoolelac

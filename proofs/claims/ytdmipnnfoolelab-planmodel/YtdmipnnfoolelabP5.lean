/- Walks: the laws PlanModel and PlanLate. -/
import Derived.Test.YtdmipnnfoolelabP3
import Derived.Test.YtdmipnnfoolelabD9
import Derived.Test.YtdmipnnfoolelabM1b
import Derived.Test.YtdmipnnfoolelabR7
namespace Go.Proofs.Ytdmipnnfoolelab
open Go.RowKit Go.Mk

theorem alive_plan : wrongOf (List.replicate 11 0) = 0 := by decide
theorem alive_cl : wrongCl ⟨1, 7, 0, 5⟩ = 0 := by decide

theorem alive_pl : planCl [] ⟨1, 7, 0, 5⟩ = [(1, 7), (2, 5), (0, 1)] := by decide
theorem alive_do : (doCl [] ⟨1, 7, 0, 5⟩).2 = ⟨0, 0⟩ := rfl
theorem alive_of : ofCells (List.replicate 11 0) (List.getD (List.replicate 11 (0 : Int)) 0 0).toNat = [] := by decide
set_option maxRecDepth 100000 in
set_option maxHeartbeats 1000000 in
theorem alive4_any (w : World) : Calls Try.prog 11 #[] w fun e w' => e = .returned (.bool true) ∧ Ext w w' := by
  obtain ⟨i0, hi, hz0, hz1, hz2⟩ := info_parts Try.infoInt
  have hst : Try.prog.stoodInHeld 43 = false := by kernel_rfl
  have hgd : Try.prog.eqGuardType Try.prog.depth 43 = false := by kernel_rfl
  go_enter Try.func11, Try.ntmps11
  go_wp2_with (at_make; refine wpList_make_full _ rfl _ _ 22 rfl w.heap.size 3 i0 (.int .i64 0) 1 Try.underlying22 hi hz0 hz1 .i64 .i64 _ _ 11 rfl rfl rfl rfl (by rw [hz2]; omega) (by unfold maxLen; omega) (Nat.le_refl _) ?_; intro w1 hown hgrow)
  have e1 : Ext w w1 := (Ext.refl w).grown hgrow (fun k hk => by cases hk)
  have hz : Ints w1 (.slice (some ⟨w.heap.size, 0, none⟩) 11 11) (List.replicate 11 0) := ints_of_owns (n := 11) (by rw [show ((List.replicate 11 (0 : Int)).map I) = (madeCells (Value.int IntKind.i64 0).cells (11 * 1)).toList by kernel_rfl]; exact hown)
  clear hown hgrow
  refine (Make_any _ _ 1 7 0 5 w1 hz alive_plan alive_cl).mono ?_
  rintro e w2 ⟨⟨u, rfl, hu⟩, e2⟩
  rw [alive_of, alive_pl] at hu
  rw [alive_of, alive_do]
  obtain ⟨ao, cap, rfl, -, -, hcs⟩ := hu.form
  obtain ⟨b, off, rfl, d1, d2⟩ := hcs 2 (by decide)
  clear hcs hu hz
  replace e2 := e1.trans e2
  clear e1
  have e3 : Ext w (w2.alloc (.cells #[I 0, I 0] 30)) := e2.alloc _
  replace d1 := ((Ext.refl w2).alloc (.cells #[I 0, I 0] 30)).cell d1
  replace d2 := ((Ext.refl w2).alloc (.cells #[I 0, I 0] 30)).cell d2
  have d1' : (w2.alloc (.cells #[I 0, I 0] 30)).cell? ⟨b, off + 4, none⟩ = some (I 0) := d1
  have d2' : (w2.alloc (.cells #[I 0, I 0] 30)).cell? ⟨b, off + 4 + 1, none⟩ = some (I 1) := d2
  clear d1 d2
  go_wp2
  go_ret
  exact ⟨rfl, e3⟩

set_option maxRecDepth 100000 in
set_option maxHeartbeats 1000000 in
theorem PlanModel_any (v : Value) (xs : List Int) (k a o n : Int) (w : World) (hv : Ints w v xs) :
    Gives Try.prog 4 #[v, .agg #[I k, I a, I o, I n]] w fun r _ => r = .bool true := by
  refine gives_exts ?_
  have e0 : Ext w (w.alloc (.cells #[I k, I a, I o, I n] 24)) := (Ext.refl w).alloc _
  have HB : Hid (∀ wx, Ext (w.alloc (.cells #[I k, I a, I o, I n] 24)) wx → wx.cell? ⟨w.heap.size, 0, none⟩ = some (I k) ∧ wx.cell? ⟨w.heap.size, 1, none⟩ = some (I a) ∧ wx.cell? ⟨w.heap.size, 2, none⟩ = some (I o) ∧ wx.cell? ⟨w.heap.size, 3, none⟩ = some (I n)) := fun wx hx =>
    ⟨hx.cell (by simp), hx.cell (by simp), hx.cell (by simp), hx.cell (by simp)⟩
  have hst : Try.prog.stoodInHeld 30 = false := by kernel_rfl
  have hgd : Try.prog.eqGuardType Try.prog.depth 30 = false := by kernel_rfl
  have HM := Lib.hid (fun wx (h : Ext w wx) => Make_any v xs k a o n wx (hv.ext h))
  have hX := fun wx (h : Ext w wx) => refWrong_any v xs wx (hv.ext h)
  have hC := fun wx => refWrongCall_any k a o n wx
  go_enter Try.func4, Try.ntmps4
  go_wp2_with fail
  refine Calls.exts (alive4_any _) (fun w0 e00 => ?_)
  replace e0 := e0.trans e00
  go_wp2_with fail
  refine Calls.drawn (hX _ e0) (fun m => ?_)
  by_cases hx : wrongOf xs = 0
  case neg =>
    have hb : (wrongOf xs != 0) = true := by simpa using hx
    go_wp2
    go_ret
    exact ⟨rfl, e0.drewN _⟩
  have e1 := e00.drewN m
  have m1 := e0.drewN m
  generalize w0.drewN m = w1 at *
  rw [hx]
  obtain ⟨c0, c1, c2, c3⟩ := HB.out w1 e1
  go_wp2_with fail
  refine Calls.exts (hC _) (fun w2 e2 => ?_)
  by_cases hc : wrongCl ⟨k, a, o, n⟩ = 0
  case neg =>
    have hb : (wrongCl ⟨k, a, o, n⟩ != 0) = true := by simpa using hc
    go_wp2
    go_ret
    exact ⟨rfl, m1.trans e2⟩
  replace HM := fun wx h => HM.out wx h hx hc
  rw [hc]
  replace m1 := m1.trans e2
  replace e2 := e1.trans e2
  clear e1 c0 c1 c2 c3 hX hC e00 e0
  obtain ⟨c0, c1, c2, c3⟩ := HB.out w2 e2
  go_wp2_with fail
  refine (HM _ m1).mono ?_
  rintro e w3 ⟨⟨u1, rfl, hu1⟩, e3⟩
  replace m1 := m1.trans e3
  replace e3 := e2.trans e3
  clear e2 c0 c1 c2 c3 HM
  obtain ⟨hl11, -, -, hok⟩ := (right_iff xs).1 hx
  obtain ⟨pm1, pm2⟩ := plan_model (c := ⟨k, a, o, n⟩) hx hc
  have hpl := plan_len (ofCells xs (xs.getD 0 0).toNat) ⟨k, a, o, n⟩
  have HO := Lib.hid (fun wx (h : Ext w wx) => refOf_has v xs wx (hv.ext h) hx)
  have HS := Lib.hid (fun wx (h : Ext w wx) u hu => refSet2_any v u xs (planCl (ofCells xs (xs.getD 0 0).toNat) ⟨k, a, o, n⟩) wx (hv.ext h) hu (by omega))
  generalize ofCells xs (xs.getD 0 0).toNat = l at *
  have HD := Lib.hid (fun u wx h => rDo_any u l k a o n wx h hok hc)
  generalize planCl l ⟨k, a, o, n⟩ = pl at *
  generalize setAll xs pl = ys at *
  have HPM1 := Lib.hid pm1
  have HPM2 := Lib.hid pm2
  clear hl11 hok hx hc hv pm1 pm2
  generalize hDD : doCl l ⟨k, a, o, n⟩ = D at *
  have HDD := Lib.hid hDD
  clear hDD
  obtain ⟨D1, D2, D3⟩ := D
  obtain ⟨ao, cap, rfl, hp1, hp2, -⟩ := hu1.form
  unfold maxLen at hp2
  have m4 : Ext w (w3.alloc (.cells #[I D2, I D3] 30)) := m1.alloc _
  have e4 : Ext (w.alloc (.cells #[I k, I a, I o, I n] 24)) (w3.alloc (.cells #[I D2, I D3] 30)) := e3.alloc _
  have HB3 : Hid (∀ wx, Ext (w3.alloc (.cells #[I D2, I D3] 30)) wx → wx.cell? ⟨w3.heap.size, 0, none⟩ = some (I D2) ∧ wx.cell? ⟨w3.heap.size, 1, none⟩ = some (I D3)) := fun wx hx => ⟨hx.cell (by simp), hx.cell (by simp)⟩
  have hu2 := hu1.ext ((Ext.refl w3).alloc (.cells #[I D2, I D3] 30))
  clear hu1
  go_wp2_with fail
  refine (HS.out _ m4 _ hu2).to fun d w5 e5 hd => ?_
  replace m4 := m4.trans e5
  replace e4 := e4.trans e5
  obtain ⟨c0, c1, c2, c3⟩ := HB.out _ e4
  go_wp2_with fail
  refine wp_region_mono_tail 9 [none, some (.inr fun v w => Has w5.heap.size w v l), none, some (.inr fun r wx => ∃ u, r = .tuple #[u, .agg #[I D2, I D3]] ∧ Has w5.heap.size wx u D1), some (.inr fun r wx => ∃ u, r = .tuple #[u, .agg #[I D2, I D3]] ∧ Has w5.heap.size wx u D1), some (.inr fun u wx => Has w5.heap.size wx u D1), some (.inl (.agg #[I D2, I D3])), some (.inr (Box w5.heap.size 30 (I 0) (I 0))), none] (by kernel_rfl) (by kernel_rfl) ?_ ?_
  · exact ⟨trivial, monoHas _ _, trivial, fun _ _ _ he ⟨u, h1, h2⟩ => ⟨u, h1, h2.ext he⟩, fun _ _ _ he ⟨u, h1, h2⟩ => ⟨u, h1, h2.ext he⟩, monoHas _ _, trivial, monoBox _ _ _ _, trivial, trivial⟩
  iterate 1 (refine wpM_p (fun K hK => ?_); go_simp; refine hK _ ?_; clear hK K)
  refine wpM_l _ rfl (fun w' hw' _ => ?_) (fun v31 => ?_)
  · have hg := (HO.out w' (m4.trans hw')).mono (fun e w'' ⟨r, he, hx, hd⟩ => (⟨r, he, hx, hd.low hw'.size⟩ : ∃ r, e = Ending.returned r ∧ Ext w' w'' ∧ Has w5.heap.size w'' r l))
    unfold makes
    go_simp
    exact ⟨Ext.refl _, hg⟩
  refine wpM_q (.agg #[I k, I a, I o, I n]) rfl (fun w' hw' => by have q0 := hw'.cell c0; have q1 := hw'.cell c1; have q2 := hw'.cell c2; have q3 := hw'.cell c3; go_simp) ?_
  refine wpM_l _ rfl (fun w' hw' hk => ?_) (fun v33 => ?_)
  · have h7 : Has w5.heap.size w' v31 l := hk 31 (by decide)
    have hg := Calls.mono (HD.out v31 w' h7.writes) (fun e w'' ⟨⟨u, he, _, hd⟩, hx⟩ => (⟨_, he, hx, u, by rw [HDD.out], by have := hd _ hw'.size h7; rw [HDD.out] at this; exact this⟩ : ∃ r, e = Ending.returned r ∧ Ext w' w'' ∧ ∃ u, r = Value.tuple #[u, .agg #[I D2, I D3]] ∧ Has w5.heap.size w'' u D1))
    clear hk h7
    unfold makes
    go_simp
    exact ⟨Ext.refl _, hg⟩
  refine wpM_l _ rfl (fun w' hw' hk => ?_) (fun v29 => ?_)
  · have h7 : ∃ u, v33 = Value.tuple #[u, .agg #[I D2, I D3]] ∧ Has w5.heap.size w' u D1 := hk 33 (by decide)
    clear hk
    unfold makes
    go_simp
    exact ⟨Ext.refl _, h7⟩
  refine wpM_l _ rfl (fun w' hw' hk => ?_) (fun v34 => ?_)
  · obtain ⟨u, rfl, h7⟩ : ∃ u, v29 = Value.tuple #[u, .agg #[I D2, I D3]] ∧ Has w5.heap.size w' u D1 := hk 29 (by decide)
    clear hk
    unfold makes
    go_simp
    exact ⟨Ext.refl _, h7⟩
  refine wpM_x _ rfl (fun w' hw' hk => ?_) ?_
  · obtain ⟨u, rfl, h7⟩ : ∃ u, v29 = Value.tuple #[u, .agg #[I D2, I D3]] ∧ Has w5.heap.size w' u D1 := hk 29 (by decide)
    clear hk
    unfold makes
    go_simp
    exact ⟨Ext.refl _, rfl⟩
  refine wpM_l _ rfl (fun w' hw' hk => ?_) (fun v9 => ?_)
  · clear hk
    unfold makes
    go_simp
    exact ⟨(Ext.refl _).alloc _, box_new hw'.size⟩
  iterate 1 (refine wpM_p (fun K hK => ?_); go_simp; refine hK _ ?_; clear hK K)
  refine wpM_nil ?_
  intro w6 e6 hX
  have hh : Has w5.heap.size w6 v34 D1 := hX 34
  obtain ⟨b, rfl, hb0, hb1⟩ : Box w5.heap.size 30 (I 0) (I 0) v9 w6 := hX 9
  clear hX c0 c1 c2 c3
  have e7 : Ext w5 ((w6.setCell ⟨b, 0, none⟩ (I D2)).setCell ⟨b, 1, none⟩ (I D3)) := (e6.setCell hb0 _).setCell hb0 _
  have hh2 := hh.box2 hb1 (by decide) (I D2) (I D3)
  have hb2 := wset2 hb1 (I D2) (I D3)
  obtain ⟨x0, x1, f0, f1⟩ := box_of hb1 (Ext.refl _)
  obtain ⟨y0, y1, g0, g1⟩ := box_of hb2 (Ext.refl _)
  obtain ⟨z0, z1⟩ := HB3.out _ (e5.trans e7)
  have hdd := hd.ext e7
  have m7 := m4.trans e7
  clear hh hb1 hb2 hd
  go_wp2_with fail
  clear x0 x1 f0 f1 y0 y1 g0 g1 z0 z1
  generalize hw7 : (w6.setCell ⟨b, 0, none⟩ (I D2)).setCell ⟨b, 1, none⟩ (I D3) = w7 at *
  clear hw7
  refine Calls.drawn (refWrong_any d ys _ hdd) (fun m2 => ?_)
  rw [HPM1.out]
  replace m7 := m7.drewN m2
  replace hdd := hdd.ext (Ext.of_drewN w7 m2)
  replace hh2 := hh2.ext (Ext.of_drewN w7 m2)
  generalize w7.drewN m2 = w8 at *
  go_wp2_with fail
  refine (refOf_any d ys _ hdd HPM1.out).mono ?_
  rintro e w9 ⟨r, rfl, e9, hr⟩
  rw [HPM2.out] at hr
  replace m7 := m7.trans e9
  replace hh2 := hh2.ext e9
  go_wp2_with fail
  refine (sameWrites_eq rfl hr hh2.writes).to fun r2 w10 e10 hr2 => ?_
  subst hr2
  replace m7 := m7.trans e10
  have hp3 : (pl.length : Int) ≤ 3 := by omega
  go_wp2
  go_ret
  exact ⟨rfl, m7⟩

end Go.Proofs.Ytdmipnnfoolelab

/- Walks: the law PlanLate. -/
import Derived.Test.YtdmipnnfoolelabP5
namespace Go.Proofs.Ytdmipnnfoolelab
open Go.RowKit Go.Mk

set_option maxRecDepth 100000 in
set_option maxHeartbeats 1000000 in
theorem PlanLate_any (v : Value) (xs : List Int) (k a o n q : Int) (w : World) (hv : Ints w v xs) :
    Gives Try.prog 5 #[v, .agg #[I k, I a, I o, I n], I q] w fun r _ => r = .bool true := by
  refine gives_exts ?_
  have e0 : Ext w (w.alloc (.cells #[I k, I a, I o, I n] 24)) := (Ext.refl w).alloc _
  have HB : Hid (∀ wx, Ext (w.alloc (.cells #[I k, I a, I o, I n] 24)) wx → wx.cell? ⟨w.heap.size, 0, none⟩ = some (I k) ∧ wx.cell? ⟨w.heap.size, 1, none⟩ = some (I a) ∧ wx.cell? ⟨w.heap.size, 2, none⟩ = some (I o) ∧ wx.cell? ⟨w.heap.size, 3, none⟩ = some (I n)) := fun wx hx =>
    ⟨hx.cell (by simp), hx.cell (by simp), hx.cell (by simp), hx.cell (by simp)⟩
  have HM := Lib.hid (fun wx (h : Ext w wx) => Make_any v xs k a o n wx (hv.ext h))
  have hX := fun wx (h : Ext w wx) => refWrong_any v xs wx (hv.ext h)
  have hC := fun wx => refWrongCall_any k a o n wx
  go_enter Try.func5, Try.ntmps5
  go_wp2_with fail
  refine Calls.exts (alive4_any _) (fun w0 e00 => ?_)
  replace e0 := e0.trans e00
  go_wp2_with fail
  refine Calls.drawn (hX _ e0) (fun m => ?_)
  by_cases hx : wrongOf xs = 0
  case neg =>
    have hb : (wrongOf xs != 0) = true := by simpa using hx
    go_wp2
    go_ret
    exact ⟨rfl, e0.drewN _⟩
  have e1 := e00.drewN m
  have m1 := e0.drewN m
  generalize w0.drewN m = w1 at *
  rw [hx]
  obtain ⟨c0, c1, c2, c3⟩ := HB.out w1 e1
  go_wp2_with fail
  refine Calls.exts (hC _) (fun w2 e2 => ?_)
  by_cases hc : wrongCl ⟨k, a, o, n⟩ = 0
  case neg =>
    have hb : (wrongCl ⟨k, a, o, n⟩ != 0) = true := by simpa using hc
    go_wp2
    go_ret
    exact ⟨rfl, m1.trans e2⟩
  replace HM := fun wx h => HM.out wx h hx hc
  rw [hc]
  replace m1 := m1.trans e2
  replace e2 := e1.trans e2
  clear e1 c0 c1 c2 c3 hX hC e00 e0
  obtain ⟨c0, c1, c2, c3⟩ := HB.out w2 e2
  go_wp2_with fail
  refine (HM _ m1).mono ?_
  rintro e w3 ⟨⟨u1, rfl, hu1⟩, e3⟩
  replace m1 := m1.trans e3
  replace e3 := e2.trans e3
  clear e2 c0 c1 c2 c3 HM
  obtain ⟨hl11, hx0, hx5, hok⟩ := (right_iff xs).1 hx
  have hpl := plan_len (ofCells xs (xs.getD 0 0).toNat) ⟨k, a, o, n⟩
  obtain ⟨ao, cap, rfl, hp1, hp2, -⟩ := hu1.form
  unfold maxLen at hp2
  by_cases hq0 : q < 0
  · clear hx hc hv hok hx0 hx5 hl11
    generalize planCl (ofCells xs (xs.getD 0 0).toNat) ⟨k, a, o, n⟩ = pl at *
    go_wp2
    go_ret
    exact ⟨rfl, m1.alloc _⟩
  by_cases hq1 : ((planCl (ofCells xs (xs.getD 0 0).toNat) ⟨k, a, o, n⟩).length : Int) ≤ q
  · clear hx hc hv hok hx0 hx5 hl11
    generalize planCl (ofCells xs (xs.getD 0 0).toNat) ⟨k, a, o, n⟩ = pl at *
    go_wp2
    go_ret
    exact ⟨rfl, m1.alloc _⟩
  obtain ⟨j, rfl⟩ : ∃ j : Nat, q = (j : Int) := ⟨q.toNat, by omega⟩
  have hj : j < (planCl (ofCells xs (xs.getD 0 0).toNat) ⟨k, a, o, n⟩).length := by omega
  obtain ⟨pl1, pl2⟩ := plan_late hx hj
  have HS := Lib.hid (fun wx (h : Ext w wx) u hu => refSet2_any v u xs ((planCl (ofCells xs (xs.getD 0 0).toNat) ⟨k, a, o, n⟩).take j) wx (hv.ext h) hu (by omega))
  have hut := hu1.take j (by omega)
  have hyl : (setAll xs ((planCl (ofCells xs (xs.getD 0 0).toNat) ⟨k, a, o, n⟩).take j)).length = 11 := by rw [length_setAll]; exact hl11
  have HR : Hid (k = 1 → wrongOf (setAll xs ((planCl (ofCells xs (xs.getD 0 0).toNat) ⟨k, a, o, n⟩).take j)) = 0 ∧ ofCells (setAll xs ((planCl (ofCells xs (xs.getD 0 0).toNat) ⟨k, a, o, n⟩).take j)) ((setAll xs ((planCl (ofCells xs (xs.getD 0 0).toNat) ⟨k, a, o, n⟩).take j)).getD 0 0).toNat = ofCells xs (xs.getD 0 0).toNat) := fun hk => by
    have h2 := pl2 hk
    rw [right_iff, pl1, h2]
    exact ⟨⟨hyl, hx0, hx5, hok⟩, rfl⟩
  have HO := Lib.hid (fun wx (h : Ext w wx) => refOf_any v xs wx (hv.ext h) hx)
  obtain ⟨ao2, cap2, hveq, -, -, hvc⟩ := hv.form
  obtain ⟨b, off, rfl, v0⟩ := hvc 0 (by omega)
  clear hvc
  rw [hl11] at hveq
  generalize planCl (ofCells xs (xs.getD 0 0).toNat) ⟨k, a, o, n⟩ = pl at *
  generalize setAll xs (pl.take j) = ys at *
  generalize ofCells xs (xs.getD 0 0).toNat = l at *
  generalize xs.getD 0 0 = x at *
  clear hx hc hv hok hx0 hx5 hl11 pl2
  generalize hDD : (doCl l ⟨k, a, o, n⟩).2 = D at *
  clear hDD
  obtain ⟨D2, D3⟩ := D
  simp only [Nat.add_zero] at v0
  have m4 : Ext w (w3.alloc (.cells #[I D2, I D3] 30)) := m1.alloc _
  have e4 : Ext (w.alloc (.cells #[I k, I a, I o, I n] 24)) (w3.alloc (.cells #[I D2, I D3] 30)) := e3.alloc _
  replace hut := hut.ext ((Ext.refl w3).alloc (.cells #[I D2, I D3] 30))
  have hj0 : ¬ ((j : Int) < 0) := by omega
  have HVE := Lib.hid hveq
  subst hveq
  go_wp2_with fail
  refine (HS.out _ m4 _ hut).to fun d w5 e5 hd => ?_
  replace m4 := m4.trans e5
  replace e4 := e4.trans e5
  obtain ⟨ao3, cap3, hdeq, -, -, hdc⟩ := hd.form
  rw [hyl] at hdeq hdc
  obtain ⟨b3, off3, rfl, d0⟩ := hdc 0 (by omega)
  simp only [Nat.add_zero] at d0
  rw [pl1] at d0
  clear hdc
  subst hdeq
  have v5 := m4.cell v0
  go_wp2_with fail
  go_region
  replace hd := hd.ext (Ext.refl w5).drew
  replace m4 := m4.drew
  replace e4 := e4.drew
  clear d0 v5
  generalize w5.drew = w5 at *
  obtain ⟨c0, c1, c2, c3⟩ := HB.out _ e4
  by_cases hk : k = 1
  · obtain ⟨hr1, hr2⟩ := HR.out hk
    subst hk
    go_wp2_with fail
    refine (refOf_any _ ys _ hd hr1).mono ?_
    rintro e w6 ⟨r, rfl, e6, hr⟩
    rw [hr2] at hr
    go_wp2_with fail
    refine (HO.out _ (m4.trans e6)).mono ?_
    rintro e w7 ⟨r7, rfl, e7, hr7⟩
    go_wp2_with fail
    refine (sameWrites_eq rfl (hr.ext e7) hr7).to fun r2 w10 e10 hr2 => ?_
    subst hr2
    go_wp2
    go_ret
    exact ⟨rfl, m4.trans (e6.trans (e7.trans e10))⟩
  · have hb : (k != 1) = true := by simpa using hk
    clear HR
    go_wp2
    go_ret
    exact ⟨rfl, m4⟩

end Go.Proofs.Ytdmipnnfoolelab

/- Walks: the law PlanTells. -/
import Derived.Test.YtdmipnnfoolelabP3
import Derived.Test.YtdmipnnfoolelabD5e
import Derived.Test.YtdmipnnfoolelabM1b
namespace Go.Proofs.Ytdmipnnfoolelab
open Go.RowKit Go.Mk

set_option maxRecDepth 100000 in
set_option maxHeartbeats 1000000 in
theorem PlanTells_any (v : Value) (xs : List Int) (k a o n : Int) (w : World) (hv : Ints w v xs) :
    Gives Try.prog 3 #[v, .agg #[I k, I a, I o, I n]] w fun r _ => r = .bool true := by
  refine gives_exts ?_
  have e0 : Ext w (w.alloc (.cells #[I k, I a, I o, I n] 24)) := (Ext.refl w).alloc _
  have HB : Hid (∀ wx, Ext (w.alloc (.cells #[I k, I a, I o, I n] 24)) wx → wx.cell? ⟨w.heap.size, 0, none⟩ = some (I k) ∧ wx.cell? ⟨w.heap.size, 1, none⟩ = some (I a) ∧ wx.cell? ⟨w.heap.size, 2, none⟩ = some (I o) ∧ wx.cell? ⟨w.heap.size, 3, none⟩ = some (I n)) := fun wx hx =>
    ⟨hx.cell (by simp), hx.cell (by simp), hx.cell (by simp), hx.cell (by simp)⟩
  have hst : Try.prog.stoodInHeld 30 = false := by kernel_rfl
  have hgd : Try.prog.eqGuardType Try.prog.depth 30 = false := by kernel_rfl
  have HM := Lib.hid (fun wx (h : Ext w wx) => Make_any v xs k a o n wx (hv.ext h))
  have HP := Lib.hid (fun wx (h : Ext w wx) => rPlan_any v xs k a o n wx (hv.ext h))
  have hX := fun wx (h : Ext w wx) => refWrong_any v xs wx (hv.ext h)
  have hC := fun wx => refWrongCall_any k a o n wx
  clear hv
  go_enter Try.func3, Try.ntmps3
  go_wp2_with fail
  refine Calls.drawn (hX _ e0) (fun m => ?_)
  by_cases hx : wrongOf xs = 0
  case neg =>
    have hb : (wrongOf xs != 0) = true := by simpa using hx
    go_wp2
    go_ret
    exact ⟨rfl, e0.drewN _⟩
  have e1 := (Ext.refl (w.alloc (.cells #[I k, I a, I o, I n] 24))).drewN m
  generalize (w.alloc (.cells #[I k, I a, I o, I n] 24)).drewN m = w1 at *
  rw [hx]
  obtain ⟨c0, c1, c2, c3⟩ := HB.out w1 e1
  go_wp2_with fail
  refine Calls.exts (hC _) (fun w2 e2 => ?_)
  by_cases hc : wrongCl ⟨k, a, o, n⟩ = 0
  case neg =>
    have hb : (wrongCl ⟨k, a, o, n⟩ != 0) = true := by simpa using hc
    go_wp2
    go_ret
    exact ⟨rfl, e0.trans (e1.trans e2)⟩
  replace HM := fun wx h => HM.out wx h hx hc
  replace HP := fun wx h => HP.out wx h hx hc
  rw [hc]
  replace e2 := e1.trans e2
  clear e1 c0 c1 c2 c3 hX hC hx hc
  obtain ⟨c0, c1, c2, c3⟩ := HB.out w2 e2
  go_wp2_with fail
  refine (HM _ (e0.trans e2)).mono ?_
  rintro e w3 ⟨⟨u1, rfl, hu1⟩, e3⟩
  replace e3 := e2.trans e3
  clear e2 c0 c1 c2 c3
  generalize ofCells xs (xs.getD 0 0).toNat = l at *
  generalize hPL : planCl l ⟨k, a, o, n⟩ = pl at *
  have HPL := Lib.hid hPL
  generalize hD : (doCl l ⟨k, a, o, n⟩).2 = D at *
  have HD := Lib.hid hD
  clear hD hPL
  obtain ⟨D2, D3⟩ := D
  have e4 := e3.trans ((Ext.refl w3).alloc (.cells #[I D2, I D3] 30))
  have HB3 : Hid (∀ wx, Ext (w3.alloc (.cells #[I D2, I D3] 30)) wx → wx.cell? ⟨w3.heap.size, 0, none⟩ = some (I D2) ∧ wx.cell? ⟨w3.heap.size, 1, none⟩ = some (I D3)) := fun wx hx => ⟨hx.cell (by simp), hx.cell (by simp)⟩
  obtain ⟨c0, c1, c2, c3⟩ := HB.out _ e4
  go_wp2_with fail
  refine (HP _ (e0.trans e4)).mono ?_
  rintro e w5 ⟨⟨u2, rfl, hu2⟩, e5⟩
  replace hu2 := hu2.writes
  rw [HPL.out] at hu2
  rw [HD.out]
  replace hu1 := hu1.ext (((Ext.refl w3).alloc _).trans e5)
  clear c0 c1 c2 c3 HM HP HB
  have e6 := e4.trans (e5.trans ((Ext.refl w5).alloc (.cells #[I D2, I D3] 30)))
  obtain ⟨y0, y1⟩ := HB3.out _ (e5.trans ((Ext.refl w5).alloc (.cells #[I D2, I D3] 30)))
  clear HB3
  go_wp2_with fail
  refine (sameWrites_eq rfl (hu1.ext ((Ext.refl w5).alloc _)) (hu2.ext ((Ext.refl w5).alloc _))).to fun r w7 e7 hr => ?_
  subst hr
  clear y0 y1
  go_wp2
  go_ret
  exact ⟨rfl, e0.trans (e6.trans e7)⟩

end Go.Proofs.Ytdmipnnfoolelab

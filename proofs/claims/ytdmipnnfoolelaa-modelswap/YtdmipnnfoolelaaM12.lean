/- Walks: the law ModelSwap. -/
import Derived.Test.YtdmipnnfoolelaaM11
namespace Go.Proofs.Ytdmipnnfoolelaa
open Go.RowKit Go.Mk

set_option maxRecDepth 100000 in
set_option maxHeartbeats 1000000 in
theorem ModelSwap_any (v : Value) (l : List (Int × Int)) (a b : Int) (w : World) (hv : Writes w v l) :
    Gives Try.prog 8 #[v, I a, I b] w fun r _ => r = .bool true := by
  refine gives_exts ?_
  go_enter Try.func8, Try.ntmps8
  go_wp2_with fail
  refine Calls.exts (alive2_any _) (fun w1 e1 => ?_)
  have e0 : Ext w1 ((w1.alloc (.cells #[I 6, I a, I b, I 0] 38)).alloc (.cells #[I 6, I b, I a, I 0] 38)) := ((Ext.refl w1).alloc _).alloc _
  have HC : Hid (∀ wx, Ext ((w1.alloc (.cells #[I 6, I a, I b, I 0] 38)).alloc (.cells #[I 6, I b, I a, I 0] 38)) wx →
      (wx.cell? ⟨w1.heap.size, 0, none⟩ = some (I 6) ∧ wx.cell? ⟨w1.heap.size, 1, none⟩ = some (I a) ∧ wx.cell? ⟨w1.heap.size, 2, none⟩ = some (I b) ∧ wx.cell? ⟨w1.heap.size, 3, none⟩ = some (I 0)) ∧
      (wx.cell? ⟨w1.heap.size + 1, 0, none⟩ = some (I 6) ∧ wx.cell? ⟨w1.heap.size + 1, 1, none⟩ = some (I b) ∧ wx.cell? ⟨w1.heap.size + 1, 2, none⟩ = some (I a) ∧ wx.cell? ⟨w1.heap.size + 1, 3, none⟩ = some (I 0))) := fun wx hx =>
    ⟨⟨hx.cell (by simp), hx.cell (by simp), hx.cell (by simp), hx.cell (by simp)⟩, hx.cell (by simp), hx.cell (by simp), hx.cell (by simp), hx.cell (by simp)⟩
  have m0 := e1.trans e0
  go_wp2_with fail
  refine (right_any v l _ (hv.ext m0)).mono ?_
  rintro e w2 ⟨⟨c, rfl, hb⟩, e2⟩
  have m2 := m0.trans e2
  cases c
  · go_wp2
    go_ret
    exact ⟨rfl, m2⟩
  have hok : Okn l := hb.1 rfl
  clear hb
  obtain ⟨⟨d0, d1, d2, d3⟩, _⟩ := HC.out w2 e2
  go_wp2_with fail
  refine (mWrong_any 6 a b 0 w2).to fun r w3 e3 hr => ?_
  subst hr
  have m3 := m2.trans e3
  obtain ⟨⟨g0, g1, g2, g3⟩, _⟩ := HC.out w3 (e2.trans e3)
  clear d0 d1 d2 d3
  by_cases hc : wrongCl ⟨6, a, b, 0⟩ = 0
  case neg =>
    have hb : (wrongCl ⟨6, a, b, 0⟩ != 0) = true := by simpa using hc
    go_wp2
    go_ret
    exact ⟨rfl, m3⟩
  rw [hc]
  go_wp2_with fail
  refine (Do_any v l 6 a b 0 w3 (hv.ext m3) hok hc).mono ?_
  rintro e w4 ⟨r, rfl, e4, u, rfl, hu⟩
  have hc2 : wrongCl ⟨6, b, a, 0⟩ = 0 := by
    unfold wrongCl at hc ⊢
    dsimp only at hc ⊢
    repeat' split at hc
    all_goals first | exact absurd hc (by decide) | skip
    rw [if_neg (by omega), if_neg (by omega), if_neg (by omega), if_neg (by omega)]
  obtain ⟨r1, r2, r3, r4⟩ := okn_do hok hc
  obtain ⟨t1, t2⟩ := swap_twice l a b
  have hu2 := hu.writes
  clear hu r2 r3 r4
  generalize doCl l ⟨6, a, b, 0⟩ = D at *
  obtain ⟨D1, D2, D3⟩ := D
  simp only [] at r1 hu2 t1 t2
  have e5 : Ext w4 (w4.alloc (.cells #[I D2, I D3] 43)) := (Ext.refl w4).alloc _
  have HQ : Hid ((w4.alloc (.cells #[I D2, I D3] 43)).cell? ⟨w4.heap.size, 0, none⟩ = some (I D2)) := by unfold Hid; simp
  obtain ⟨_, k0, k1, k2, k3⟩ := HC.out (w4.alloc (.cells #[I D2, I D3] 43)) (e2.trans (e3.trans (e4.trans e5)))
  clear g0 g1 g2 g3 hc hok
  have hE0 := e0.size
  have hsz4 : w1.heap.size + 1 < w4.heap.size := by have := (e2.trans (e3.trans e4)).size; simp at this; omega
  obtain ⟨_, p0, p1, p2, p3⟩ := HC.out w4 (e2.trans (e3.trans e4))
  go_wp2_with fail
  refine (Do_any u D1 6 b a 0 _ (hu2.ext e5) r1 hc2).mono ?_
  rintro e w6 ⟨r, rfl, e6, u6, rfl, hu6⟩
  have q1 := e6.cell HQ.out
  have hw6 := hu6.writes
  rw [t1] at hw6
  clear hu6 t1
  generalize doCl D1 ⟨6, b, a, 0⟩ = E at *
  obtain ⟨E1, E2, E3⟩ := E
  simp only [] at t2 hw6
  subst t2
  have m6 := m3.trans (e4.trans (e5.trans e6))
  have e7 : Ext w6 (w6.alloc (.cells #[I E2, I E3] 43)) := (Ext.refl w6).alloc _
  have q2 := e7.cell q1
  clear r1 hc2 k0 k1 k2 k3 p0 p1 p2 p3 HC
  have hq6 : w4.heap.size < w6.heap.size := by have := e6.size; simp at this; omega
  go_wp2_with fail
  refine (sameWrites_eq rfl (hw6.ext e7) (hv.ext (m6.trans e7))).to fun r w7 e8 hr => ?_
  subst hr
  go_wp2
  go_ret
  exact ⟨rfl, m6.trans (e7.trans e8)⟩

end Go.Proofs.Ytdmipnnfoolelaa

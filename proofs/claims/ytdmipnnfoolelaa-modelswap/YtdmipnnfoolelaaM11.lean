/- Walks: the laws ModelRight and ModelSwap. -/
import Derived.Test.YtdmipnnfoolelaaM10
namespace Go.Proofs.Ytdmipnnfoolelaa
open Go.RowKit Go.Mk

theorem reqs_lit {w : World} (e : TypeId) (l : List Rq) (cs : Array Value) (n : Nat) (hc : cs.toList = cells6 l) (hn : l.length = n) (hm : n ≤ maxLen) : Reqs (w.alloc (.cells cs e)) (.slice (some ⟨w.heap.size, 0, none⟩) n n) l := by
  subst hn
  have := World.ownsRow_lit (base := 0) (e := e) (size := 6) w cs l.length (Nat.zero_le _) hm (by rw [← Array.length_toList, hc, length_cells6])
  rw [hc] at this
  exact Row.of_owns this

theorem do_put : doCl [] ⟨1, 7, 0, 5⟩ = ([(7, 5)], ⟨0, 0⟩) := rfl
theorem do_add : doCl [(7, 5)] ⟨4, 7, 0, -2⟩ = ([(7, 3)], ⟨0, 3⟩) := rfl
theorem all_one : allCl [⟨5, 0, 0, 0⟩] = ([], [(0, 0)]) := rfl

set_option maxHeartbeats 1000000 in
theorem alive2_any (w : World) : Calls Try.prog 30 #[] w fun e w' => e = .returned (.bool true) ∧ Ext w w' := by
  go_enter Try.func30, Try.ntmps30
  go_wp2_with fail
  refine (Do_any _ [] 1 7 0 5 w (writes_nil w) okn_nil rfl).mono ?_
  rintro e w1 ⟨r, rfl, e1, u, rfl, hu⟩
  rw [do_put] at hu ⊢
  obtain ⟨ao, cap, rfl, _, _, _⟩ := hu.writes.form
  have hw1 := hu.writes
  have ok1 : Okn [(7, 5)] := (okn_do (c := ⟨1, 7, 0, 5⟩) okn_nil rfl).1
  clear hu
  have b1 : (w1.alloc (.cells #[I 0, I 0] 43)).cell? ⟨w1.heap.size, 0, none⟩ = some (I 0) := by simp
  have HB1 : Hid _ := b1
  clear b1
  have e1' : Ext w1 (w1.alloc (.cells #[I 0, I 0] 43)) := (Ext.refl w1).alloc _
  go_wp2_with fail
  refine (Do_any _ [(7, 5)] 4 7 0 (-2) _ (hw1.ext e1') ok1 rfl).mono ?_
  rintro e w2 ⟨r, rfl, e2, u2, rfl, hu2⟩
  rw [do_add] at hu2 ⊢
  obtain ⟨ao2, cap2, rfl, _, _, _⟩ := hu2.writes.form
  have b2 : (w2.alloc (.cells #[I 0, I 3] 43)).cell? ⟨w2.heap.size, 1, none⟩ = some (I 3) := by simp
  have HB2 : Hid _ := b2
  clear b2 hu2
  have e2' : Ext w2 (w2.alloc (.cells #[I 0, I 3] 43)) := (Ext.refl w2).alloc _
  have hq : Reqs ((w2.alloc (.cells #[I 0, I 3] 43)).alloc (.cells #[I 0, I 0, I 5, I 0, I 0, I 0] 48)) (.slice (some ⟨w2.heap.size + 1, 0, none⟩) 1 1) [⟨0, 0, ⟨5, 0, 0, 0⟩⟩] := by
    have := reqs_lit (w := w2.alloc (.cells #[I 0, I 3] 43)) 48 [⟨0, 0, ⟨5, 0, 0, 0⟩⟩] #[I 0, I 0, I 5, I 0, I 0, I 0] 1 rfl rfl (by decide)
    simpa using this
  have e3' : Ext (w2.alloc (.cells #[I 0, I 3] 43)) ((w2.alloc (.cells #[I 0, I 3] 43)).alloc (.cells #[I 0, I 0, I 5, I 0, I 0, I 0] 48)) := (Ext.refl _).alloc _
  go_wp2_with fail
  refine (All_any _ _ _ hq (fun r hr => by simp at hr; subst hr; rfl) (by decide)).mono ?_
  rintro e w3 ⟨r, rfl, e3, x, y, rfl, hx, hy⟩
  rw [show List.map Rq.call [⟨0, 0, ⟨5, 0, 0, 0⟩⟩] = [⟨5, 0, 0, 0⟩] from rfl, all_one] at hx hy
  obtain ⟨ao3, cap3, rfl, _, _, _⟩ := hx.form
  obtain ⟨ao4, cap4, rfl, _, _, _⟩ := hy.form
  have m2 : Ext w w3 := e1.trans (e1'.trans (e2.trans (e2'.trans (e3'.trans e3))))
  have k1 := (e2.trans (e2'.trans (e3'.trans e3))).cell HB1.out
  have k2 := (e3'.trans e3).cell HB2.out
  clear hx hy hq e1 e1' e2 e2' e3' e3 HB1 HB2 hw1 ok1
  go_wp2_with fail
  refine (mWrong_any 0 0 0 0 w3).to fun r w4 e4 hr => ?_
  subst hr
  rw [show wrongCl ⟨0, 0, 0, 0⟩ = 1 from rfl]
  have hc : Ints (w4.alloc (.cells #[I 1, I 7, I 5, I 0, I 0, I 0, I 0, I 0, I 0, I 0, I 0] 3)) (.slice (some ⟨w4.heap.size, 0, none⟩) 11 11) [1, 7, 5, 0, 0, 0, 0, 0, 0, 0, 0] := ints_lit _ _ _ 11 rfl rfl (by decide)
  have e5 : Ext w4 (w4.alloc (.cells #[I 1, I 7, I 5, I 0, I 0, I 0, I 0, I 0, I 0, I 0, I 0] 3)) := (Ext.refl w4).alloc _
  go_wp2_with fail
  refine (Of_any _ _ _ hc (by decide)).mono ?_
  rintro e w5 ⟨r, rfl, e6, ho⟩
  rw [show ofCells [1, 7, 5, 0, 0, 0, 0, 0, 0, 0, 0] (List.getD [1, 7, 5, 0, 0, 0, 0, 0, 0, 0, 0] 0 0 : Int).toNat = [(7, 5)] by decide] at ho
  obtain ⟨ao6, cap6, rfl, _, _, _⟩ := ho.form
  go_wp2
  go_ret
  exact ⟨rfl, m2.trans (e4.trans (e5.trans e6))⟩

set_option maxRecDepth 100000 in
set_option maxHeartbeats 1000000 in
theorem ModelRight_any (v : Value) (l : List (Int × Int)) (k a o n : Int) (w : World) (hv : Writes w v l) :
    Gives Try.prog 7 #[v, .agg #[I k, I a, I o, I n]] w fun r _ => r = .bool true := by
  refine gives_exts ?_
  have e0 : Ext w (w.alloc (.cells #[I k, I a, I o, I n] 38)) := (Ext.refl w).alloc _
  have HC : Hid ((w.alloc (.cells #[I k, I a, I o, I n] 38)).cell? ⟨w.heap.size, 0, none⟩ = some (I k) ∧ (w.alloc (.cells #[I k, I a, I o, I n] 38)).cell? ⟨w.heap.size, 1, none⟩ = some (I a) ∧ (w.alloc (.cells #[I k, I a, I o, I n] 38)).cell? ⟨w.heap.size, 2, none⟩ = some (I o) ∧ (w.alloc (.cells #[I k, I a, I o, I n] 38)).cell? ⟨w.heap.size, 3, none⟩ = some (I n)) := ⟨by simp, by simp, by simp, by simp⟩
  go_enter Try.func7, Try.ntmps7
  go_wp2_with fail
  refine Calls.exts (alive2_any _) (fun w1 e1 => ?_)
  have m1 := e0.trans e1
  obtain ⟨d0, d1, d2, d3⟩ := HC.out
  replace d0 := e1.cell d0
  replace d1 := e1.cell d1
  replace d2 := e1.cell d2
  replace d3 := e1.cell d3
  clear HC e0 e1
  go_wp2_with fail
  refine (right_any v l w1 (hv.ext m1)).mono ?_
  rintro e w2 ⟨⟨b, rfl, hb⟩, e2⟩
  cases b
  · go_wp2
    go_ret
    exact ⟨rfl, m1.trans e2⟩
  have hok : Okn l := hb.1 rfl
  clear hb
  replace d0 := e2.cell d0
  replace d1 := e2.cell d1
  replace d2 := e2.cell d2
  replace d3 := e2.cell d3
  replace m1 := m1.trans e2
  clear e2
  go_wp2_with fail
  refine (mWrong_any k a o n w2).to fun r w3 e3 hr => ?_
  subst hr
  replace d0 := e3.cell d0
  replace d1 := e3.cell d1
  replace d2 := e3.cell d2
  replace d3 := e3.cell d3
  replace m1 := m1.trans e3
  clear e3
  by_cases hc : wrongCl ⟨k, a, o, n⟩ = 0
  case neg =>
    have hb : (wrongCl ⟨k, a, o, n⟩ != 0) = true := by simpa using hc
    go_wp2
    go_ret
    exact ⟨rfl, m1⟩
  rw [hc]
  go_wp2_with fail
  refine (Do_any v l k a o n w3 (hv.ext m1) hok hc).mono ?_
  rintro e w4 ⟨r, rfl, e4, u, rfl, hu⟩
  obtain ⟨r1, r2, r3, r4⟩ := okn_do hok hc
  have hu2 := hu.writes
  clear hu
  generalize doCl l ⟨k, a, o, n⟩ = D at *
  obtain ⟨D1, D2, D3⟩ := D
  simp only [] at r1 r2 r3 r4 hu2
  have e5 : Ext w4 (w4.alloc (.cells #[I D2, I D3] 43)) := (Ext.refl w4).alloc _
  have q1 : (w4.alloc (.cells #[I D2, I D3] 43)).cell? ⟨w4.heap.size, 0, none⟩ = some (I D2) := by simp
  have q2 : (w4.alloc (.cells #[I D2, I D3] 43)).cell? ⟨w4.heap.size, 1, none⟩ = some (I D3) := by simp
  have HQ1 : Hid _ := q1
  have HQ2 : Hid _ := q2
  clear q1 q2
  go_wp2_with fail
  refine (right_any u D1 _ (hu2.ext e5)).mono ?_
  rintro e w6 ⟨⟨b, rfl, hb⟩, e6⟩
  obtain rfl : b = true := hb.2 r1
  have q1 := e6.cell HQ1.out
  have q2 := e6.cell HQ2.out
  have m6 : Ext w w6 := m1.trans (e4.trans (e5.trans e6))
  clear hb r1 hc hok d0 d1 d2 d3 HQ1 HQ2
  by_cases hz : D2 = 0
  · subst hz
    clear r2
    go_wp2
    all_goals
      go_ret
      exact ⟨rfl, m6⟩
  · rcases r2 with h | ⟨rfl, rfl⟩
    · exact absurd h hz
    have hb2 : (D2 == 0) = false := by simpa using hz
    clear hz
    go_wp2_with fail
    refine (sameWrites_eq rfl (hu2.ext (e5.trans e6)) (hv.ext m6)).to fun r w7 e7 hr => ?_
    subst hr
    replace q1 := e7.cell q1
    replace q2 := e7.cell q2
    go_wp2
    go_ret
    exact ⟨rfl, m6.trans e7⟩

end Go.Proofs.Ytdmipnnfoolelaa

/- Walks: the laws of chapter 5: what is asked first. -/
import Derived.Test.YtdmipnnfoolelacE9
namespace Go.Proofs.Ytdmipnnfoolelac
open Go.RowKit Go.Mk

theorem live_q : wrongRq ⟨2, 5, ⟨1, 7, 0, -5⟩⟩ = 0 := by decide
theorem live_a : wrongAn ⟨1, 3, ⟨0, -9⟩⟩ = 0 := by decide

/-- A contract whose answer is bytes. -/
theorem Request_bytes (c t k a o n : Int) (w : World) : Gives Try.prog 13 #[RQ ⟨c, t, ⟨k, a, o, n⟩⟩] w fun v w' => Bytes w' v (reqB ⟨c, t, ⟨k, a, o, n⟩⟩) :=
  (Request_any c t k a o n w).mono fun _ _ ⟨v, he, ho, hx⟩ => ⟨v, he, hx, bytes_of_owns ho⟩
theorem Answer_bytes (c t x n : Int) (w : World) : Gives Try.prog 15 #[AN ⟨c, t, ⟨x, n⟩⟩] w fun v w' => Bytes w' v (ansB ⟨c, t, ⟨x, n⟩⟩) :=
  (Answer_any c t x n w).mono fun _ _ ⟨v, he, ho, hx⟩ => ⟨v, he, hx, bytes_of_owns ho⟩

set_option maxRecDepth 100000 in
set_option maxHeartbeats 1000000 in
theorem alive5_any (w : World) : Calls Try.prog 21 #[] w fun e w' => e = .returned (.bool true) ∧ Ext w w' := by
  have hst : Try.prog.stoodInHeld 25 = false := by kernel_rfl
  have hgd : Try.prog.eqGuardType Try.prog.depth 25 = false := by kernel_rfl
  have hst2 : Try.prog.stoodInHeld 30 = false := by kernel_rfl
  have hgd2 : Try.prog.eqGuardType Try.prog.depth 30 = false := by kernel_rfl
  have m0 : Ext w ((w.alloc (.cells #[I 2, I 5, I 1, I 7, I 0, I (-5)] 25)).alloc (.cells #[I 1, I 3, I 0, I (-9)] 30)) := ((Ext.refl w).alloc _).alloc _
  have HB : Hid (∀ wx, Ext ((w.alloc (.cells #[I 2, I 5, I 1, I 7, I 0, I (-5)] 25)).alloc (.cells #[I 1, I 3, I 0, I (-9)] 30)) wx → wx.heap[w.heap.size]? = some (.cells #[I 2, I 5, I 1, I 7, I 0, I (-5)] 25 (0, 0)) ∧ wx.heap[w.heap.size + 1]? = some (.cells #[I 1, I 3, I 0, I (-9)] 30 (0, 0))) := fun wx hx => ⟨first_block hx, second_block hx⟩
  go_enter Try.func21, Try.ntmps21
  go_wp2_with fail
  refine (Request_bytes 2 5 1 7 0 (-5) _).to fun v1 w1 e1 h1 => ?_
  go_wp2_with fail
  refine Calls.exts (ReadRequest_any v1 _ w1 h1) (fun w2 e2 => ?_)
  rw [readRq_req live_q]
  replace e2 := e1.trans e2
  clear e1 h1
  have hrb := heap_alloc_new w2 (.cells #[I 2, I 5, I 1, I 7, I 0, I (-5)] 25)
  replace e2 := e2.alloc (.cells #[I 2, I 5, I 1, I 7, I 0, I (-5)] 25)
  obtain ⟨k1, k2⟩ := HB.out _ e2
  obtain ⟨x0, x1, x2, x3, -⟩ := box4 k2
  go_wp2_with fail
  clear k1 k2 x0 x1 x2 x3
  refine (Answer_bytes 1 3 0 (-9) _).to fun v3 w3 e3 h3 => ?_
  go_wp2_with fail
  refine Calls.exts (ReadAnswer_any v3 _ w3 h3) (fun w4 e4 => ?_)
  rw [readAn_ans live_a]
  replace e4 := e3.trans e4
  clear e3 h3
  have ha1 := heap_alloc_new w4 (.cells #[I 1, I 3, I 0, I (-9)] 30)
  have e5 := e4.alloc (.cells #[I 1, I 3, I 0, I (-9)] 30)
  have hr5 := block_of hrb e5
  obtain ⟨k1, k2⟩ := HB.out _ (e2.trans e5)
  obtain ⟨x0, x1, x2, x3, -⟩ := box4 k2
  obtain ⟨⟨y0, y1, y2, y3, y4, y5⟩, -⟩ := box6 k1
  obtain ⟨⟨z0, z1, z2, z3, z4, z5⟩, -⟩ := box6 hr5
  clear k1 k2 ha1 hrb hr5
  go_wp2_with fail
  clear x0 x1 x2 x3 y0 y1 y2 y3 y4 y5 z0 z1 z2 z3 z4 z5
  refine Calls.exts (WrongRequest_any 2 5 1 7 0 (-5) _) (fun w6 e6 => ?_)
  rw [live_q]
  replace e6 := (e2.trans e5).trans e6
  clear e2 e4 e5
  obtain ⟨k1, k2⟩ := HB.out _ e6
  obtain ⟨x0, x1, x2, x3, -⟩ := box4 k2
  clear k1 k2
  go_wp2_with fail
  clear x0 x1 x2 x3
  refine Calls.exts (WrongAnswer_any 1 3 0 (-9) _) (fun w7 e7 => ?_)
  rw [live_a]
  replace e7 := e6.trans e7
  clear e6
  obtain ⟨k1, k2⟩ := HB.out _ e7
  obtain ⟨⟨y0, y1, y2, y3, y4, y5⟩, -⟩ := box6 k1
  clear k1 k2
  go_wp2_with fail
  clear y0 y1 y2 y3 y4 y5
  refine (Request_bytes 2 5 1 7 0 (-5) _).to fun v8 w8 e8 h8 => ?_
  replace e8 := e7.trans e8
  clear e7
  obtain ⟨k1, k2⟩ := HB.out _ e8
  obtain ⟨x0, x1, x2, x3, -⟩ := box4 k2
  clear k1 k2
  obtain ⟨a8, cap8, rfl, -⟩ := h8.form
  clear h8
  rw [show (reqB ⟨2, 5, ⟨1, 7, 0, -5⟩⟩).length = 10 from rfl]
  go_wp2_with fail
  clear x0 x1 x2 x3
  refine (Answer_bytes 1 3 0 (-9) _).to fun v9 w9 e9 h9 => ?_
  obtain ⟨a9, cap9, rfl, -⟩ := h9.form
  clear h9
  rw [show (ansB ⟨1, 3, ⟨0, -9⟩⟩).length = 8 from rfl]
  go_wp2
  go_ret
  exact ⟨rfl, m0.trans (e8.trans e9)⟩

end Go.Proofs.Ytdmipnnfoolelac

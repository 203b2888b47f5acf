/- Walks: bytes of requests and answers, as the document has them. -/
import Derived.Test.YtdmipnnfoolelacE5
namespace Go.Proofs.Ytdmipnnfoolelac
open Go.RowKit Go.Mk

theorem wrapU (n : Int) : (Value.int .u8 (IntKind.u8.wrap n)) = U (Mk.byteOf n) := by
  rw [← byteU]
  refine congrArg (Value.int .u8) ?_
  unfold IntKind.wrap
  simp [IntKind.signed, IntKind.bits]

set_option maxHeartbeats 1000000 in
theorem RequestBytes_own (c t k a o n : Int) (w : World) :
    Gives Try.prog 14 #[RQ ⟨c, t, ⟨k, a, o, n⟩⟩] w fun v w' => BytesAt w.heap.size w' v (reqB ⟨c, t, ⟨k, a, o, n⟩⟩) := by
  unfold Gives
  have e0 : Ext w (w.alloc (.cells #[I c, I t, I k, I a, I o, I n] 25)) := (Ext.refl w).alloc _
  have HB : Hid (∀ wx, Ext (w.alloc (.cells #[I c, I t, I k, I a, I o, I n] 25)) wx → wx.cell? ⟨w.heap.size, 0, none⟩ = some (I c) ∧ wx.cell? ⟨w.heap.size, 1, none⟩ = some (I t) ∧ wx.cell? ⟨w.heap.size, 2, none⟩ = some (I k) ∧ wx.cell? ⟨w.heap.size, 3, none⟩ = some (I a) ∧ wx.cell? ⟨w.heap.size, 4, none⟩ = some (I o) ∧ wx.cell? ⟨w.heap.size, 5, none⟩ = some (I n)) := fun wx hx =>
    ⟨hx.cell (by simp), hx.cell (by simp), hx.cell (by simp), hx.cell (by simp), hx.cell (by simp), hx.cell (by simp)⟩
  go_enter Try.func14, Try.ntmps14
  go_wp2_with fail
  generalize hw0 : w.alloc (.cells #[I c, I t, I k, I a, I o, I n] 25) = w0 at *
  have HW0 := Lib.hid hw0
  clear hw0
  obtain ⟨c0, c1, c2, c3, c4, c5⟩ := HB.out w0 (Ext.refl _)
  refine wp_region_mono [none, none, none, none, none, none, none, none, none, none, none, none, none, none, none, none, none, none,
    some (.inr fun v wx => Bytes wx v [Mk.byteOf c, Mk.byteOf t, Mk.byteOf k, Mk.byteOf a, Mk.byteOf o]), some (.inl (.string ⟨#[Mk.byteOf c, Mk.byteOf t, Mk.byteOf k, Mk.byteOf a, Mk.byteOf o]⟩)), some (.inl (.string ⟨#[113, Mk.byteOf c, Mk.byteOf t, Mk.byteOf k, Mk.byteOf a, Mk.byteOf o]⟩)), none, none, none,
    some (.inl (.string ⟨(fourB n).toArray⟩)), some (.inl (.string ⟨(reqB ⟨c, t, ⟨k, a, o, n⟩⟩).toArray⟩)), some (.inr fun v wx => BytesAt w.heap.size wx v (reqB ⟨c, t, ⟨k, a, o, n⟩⟩)), none] (by kernel_rfl) (by kernel_rfl) ?_ ?_
  · exact ⟨trivial, trivial, trivial, trivial, trivial, trivial, trivial, trivial, trivial, trivial, trivial, trivial, trivial, trivial, trivial, trivial, trivial, trivial, monoBytes _, trivial, trivial, trivial, trivial, trivial, trivial, trivial, monoBytesAt _ _, trivial, trivial⟩
  iterate 1 (refine wpM_p (fun K hK => ?_); go_simp; refine hK _ ?_; clear hK K)
  refine wpM_q (I c) rfl (fun w' hw' => by have q0 := hw'.cell c0; go_simp) ?_
  iterate 2 (refine wpM_p (fun K hK => ?_); go_simp; refine hK _ ?_; clear hK K)
  refine wpM_q (I t) rfl (fun w' hw' => by have q0 := hw'.cell c1; go_simp) ?_
  iterate 3 (refine wpM_p (fun K hK => ?_); go_simp; refine hK _ ?_; clear hK K)
  refine wpM_q (I k) rfl (fun w' hw' => by have q0 := hw'.cell c2; go_simp) ?_
  iterate 3 (refine wpM_p (fun K hK => ?_); go_simp; refine hK _ ?_; clear hK K)
  refine wpM_q (I a) rfl (fun w' hw' => by have q0 := hw'.cell c3; go_simp) ?_
  iterate 3 (refine wpM_p (fun K hK => ?_); go_simp; refine hK _ ?_; clear hK K)
  refine wpM_q (I o) rfl (fun w' hw' => by have q0 := hw'.cell c4; go_simp) ?_
  iterate 1 (refine wpM_p (fun K hK => ?_); go_simp; refine hK _ ?_; clear hK K)
  refine wpM_l _ rfl (fun w' hw' _ => ?_) (fun v21 => ?_)
  · unfold makes
    go_simp
    exact ⟨(Ext.refl _).alloc _, bytes_lit _ _ _ 5 (by rw [wrapU, wrapU, wrapU, wrapU, wrapU]; rfl) rfl (by decide)⟩
  refine wpM_x _ rfl (fun w' hw' hk => ?_) ?_
  · have h21 : Bytes w' v21 [Mk.byteOf c, Mk.byteOf t, Mk.byteOf k, Mk.byteOf a, Mk.byteOf o] := hk 21 (by decide)
    have hcv := run_string_of (P := Try.prog) h21 Try.underlying31 Try.underlying5 Try.underlying9
    clear hk
    unfold makes
    go_simp
    exact ⟨Ext.refl _, rfl⟩
  refine wpM_norm (fun K hK => ?_); go_simp; refine hK _ ?_; clear hK K
  refine wpM_x _ rfl (fun w' hw' _ => ?_) ?_
  · have ha := run_string_add_lists (P := Try.prog) w' [113] [Mk.byteOf c, Mk.byteOf t, Mk.byteOf k, Mk.byteOf a, Mk.byteOf o] (by decide) (by simp)
    unfold makes
    go_simp
    exact ⟨Ext.refl _, rfl⟩
  refine wpM_norm (fun K hK => ?_); go_simp; refine hK _ ?_; clear hK K
  iterate 2 (refine wpM_p (fun K hK => ?_); go_simp; refine hK _ ?_; clear hK K)
  refine wpM_q (I n) rfl (fun w' hw' => by have q0 := hw'.cell c5; go_simp) ?_
  refine wpM_x _ rfl (fun w' hw' _ => ?_) ?_
  · have hg := gives_exts (four_any n w')
    unfold makes
    go_simp
    exact ⟨Ext.refl _, hg⟩
  refine wpM_norm (fun K hK => ?_); go_simp; refine hK _ ?_; clear hK K
  refine wpM_x _ rfl (fun w' hw' _ => ?_) ?_
  · have ha := run_string_add_lists (P := Try.prog) w' [113, Mk.byteOf c, Mk.byteOf t, Mk.byteOf k, Mk.byteOf a, Mk.byteOf o] (fourB n) (by simp) (by simp [fourB])
    unfold makes
    go_simp
    exact ⟨Ext.refl _, rfl⟩
  refine wpM_norm (fun K hK => ?_); go_simp; refine hK _ ?_; clear hK K
  refine wpM_l _ rfl (fun w' hw' _ => ?_) (fun v29 => ?_)
  · have ha := run_bytes_of_string (P := Try.prog) w' 9 31 5 ⟨(reqB ⟨c, t, ⟨k, a, o, n⟩⟩).toArray⟩ Try.underlying9 Try.underlying31 Try.underlying5
    unfold makes
    go_simp
    exact ⟨(Ext.refl _).drew.alloc _, _, _, _, _, rfl, Nat.le_trans (by rw [← HW0.out]; simp) hw'.size, bytes_of_string w' 5 (reqB ⟨c, t, ⟨k, a, o, n⟩⟩) (show 10 ≤ maxLen by decide) _⟩
  iterate 1 (refine wpM_p (fun K hK => ?_); go_simp; refine hK _ ?_; clear hK K)
  refine wpM_nil ?_
  intro w4 he4 hX
  have hr : BytesAt w.heap.size w4 v29 (reqB ⟨c, t, ⟨k, a, o, n⟩⟩) := hX 29
  clear hX c0 c1 c2 c3 c4 c5
  go_wp2
  go_ret
  exact ⟨v29, rfl, e0.trans he4, hr⟩

theorem RequestBytes_any (c t k a o n : Int) (w : World) :
    Gives Try.prog 14 #[RQ ⟨c, t, ⟨k, a, o, n⟩⟩] w fun v w' => Bytes w' v (reqB ⟨c, t, ⟨k, a, o, n⟩⟩) := (RequestBytes_own c t k a o n w).mono fun _ _ _ h => h.bytes

set_option maxHeartbeats 1000000 in
theorem AnswerBytes_own (c t x n : Int) (w : World) :
    Gives Try.prog 16 #[AN ⟨c, t, ⟨x, n⟩⟩] w fun v w' => BytesAt w.heap.size w' v (ansB ⟨c, t, ⟨x, n⟩⟩) := by
  unfold Gives
  have e0 : Ext w (w.alloc (.cells #[I c, I t, I x, I n] 30)) := (Ext.refl w).alloc _
  have HB : Hid (∀ wx, Ext (w.alloc (.cells #[I c, I t, I x, I n] 30)) wx → wx.cell? ⟨w.heap.size, 0, none⟩ = some (I c) ∧ wx.cell? ⟨w.heap.size, 1, none⟩ = some (I t) ∧ wx.cell? ⟨w.heap.size, 2, none⟩ = some (I x) ∧ wx.cell? ⟨w.heap.size, 3, none⟩ = some (I n)) := fun wx hx =>
    ⟨hx.cell (by simp), hx.cell (by simp), hx.cell (by simp), hx.cell (by simp)⟩
  go_enter Try.func16, Try.ntmps16
  go_wp2_with fail
  generalize hw0 : w.alloc (.cells #[I c, I t, I x, I n] 30) = w0 at *
  have HW0 := Lib.hid hw0
  clear hw0
  obtain ⟨c0, c1, c2, c3⟩ := HB.out w0 (Ext.refl _)
  refine wp_region_mono [none, none, none, none, none, none, none, none, none, none,
    some (.inr fun v wx => Bytes wx v [Mk.byteOf c, Mk.byteOf t, Mk.byteOf x]), some (.inl (.string ⟨#[Mk.byteOf c, Mk.byteOf t, Mk.byteOf x]⟩)), some (.inl (.string ⟨#[97, Mk.byteOf c, Mk.byteOf t, Mk.byteOf x]⟩)), none, none, none,
    some (.inl (.string ⟨(fourB n).toArray⟩)), some (.inl (.string ⟨(ansB ⟨c, t, ⟨x, n⟩⟩).toArray⟩)), some (.inr fun v wx => BytesAt w.heap.size wx v (ansB ⟨c, t, ⟨x, n⟩⟩)), none] (by kernel_rfl) (by kernel_rfl) ?_ ?_
  · exact ⟨trivial, trivial, trivial, trivial, trivial, trivial, trivial, trivial, trivial, trivial, monoBytes _, trivial, trivial, trivial, trivial, trivial, trivial, trivial, monoBytesAt _ _, trivial, trivial⟩
  iterate 1 (refine wpM_p (fun K hK => ?_); go_simp; refine hK _ ?_; clear hK K)
  refine wpM_q (I c) rfl (fun w' hw' => by have q0 := hw'.cell c0; go_simp) ?_
  iterate 2 (refine wpM_p (fun K hK => ?_); go_simp; refine hK _ ?_; clear hK K)
  refine wpM_q (I t) rfl (fun w' hw' => by have q0 := hw'.cell c1; go_simp) ?_
  iterate 3 (refine wpM_p (fun K hK => ?_); go_simp; refine hK _ ?_; clear hK K)
  refine wpM_q (I x) rfl (fun w' hw' => by have q0 := hw'.cell c2; go_simp) ?_
  iterate 1 (refine wpM_p (fun K hK => ?_); go_simp; refine hK _ ?_; clear hK K)
  refine wpM_l _ rfl (fun w' hw' _ => ?_) (fun v13 => ?_)
  · unfold makes
    go_simp
    exact ⟨(Ext.refl _).alloc _, bytes_lit _ _ _ 3 (by rw [wrapU, wrapU, wrapU]; rfl) rfl (by decide)⟩
  refine wpM_x _ rfl (fun w' hw' hk => ?_) ?_
  · have h13 : Bytes w' v13 [Mk.byteOf c, Mk.byteOf t, Mk.byteOf x] := hk 13 (by decide)
    have hcv := run_string_of (P := Try.prog) h13 Try.underlying31 Try.underlying5 Try.underlying9
    clear hk
    unfold makes
    go_simp
    exact ⟨Ext.refl _, rfl⟩
  refine wpM_norm (fun K hK => ?_); go_simp; refine hK _ ?_; clear hK K
  refine wpM_x _ rfl (fun w' hw' _ => ?_) ?_
  · have ha := run_string_add_lists (P := Try.prog) w' [97] [Mk.byteOf c, Mk.byteOf t, Mk.byteOf x] (by decide) (by simp)
    unfold makes
    go_simp
    exact ⟨Ext.refl _, rfl⟩
  refine wpM_norm (fun K hK => ?_); go_simp; refine hK _ ?_; clear hK K
  iterate 2 (refine wpM_p (fun K hK => ?_); go_simp; refine hK _ ?_; clear hK K)
  refine wpM_q (I n) rfl (fun w' hw' => by have q0 := hw'.cell c3; go_simp) ?_
  refine wpM_x _ rfl (fun w' hw' _ => ?_) ?_
  · have hg := gives_exts (four_any n w')
    unfold makes
    go_simp
    exact ⟨Ext.refl _, hg⟩
  refine wpM_norm (fun K hK => ?_); go_simp; refine hK _ ?_; clear hK K
  refine wpM_x _ rfl (fun w' hw' _ => ?_) ?_
  · have ha := run_string_add_lists (P := Try.prog) w' [97, Mk.byteOf c, Mk.byteOf t, Mk.byteOf x] (fourB n) (by simp) (by simp [fourB])
    unfold makes
    go_simp
    exact ⟨Ext.refl _, rfl⟩
  refine wpM_norm (fun K hK => ?_); go_simp; refine hK _ ?_; clear hK K
  refine wpM_l _ rfl (fun w' hw' _ => ?_) (fun v21 => ?_)
  · have ha := run_bytes_of_string (P := Try.prog) w' 9 31 5 ⟨(ansB ⟨c, t, ⟨x, n⟩⟩).toArray⟩ Try.underlying9 Try.underlying31 Try.underlying5
    unfold makes
    go_simp
    exact ⟨(Ext.refl _).drew.alloc _, _, _, _, _, rfl, Nat.le_trans (by rw [← HW0.out]; simp) hw'.size, bytes_of_string w' 5 (ansB ⟨c, t, ⟨x, n⟩⟩) (show 8 ≤ maxLen by decide) _⟩
  iterate 1 (refine wpM_p (fun K hK => ?_); go_simp; refine hK _ ?_; clear hK K)
  refine wpM_nil ?_
  intro w4 he4 hX
  have hr : BytesAt w.heap.size w4 v21 (ansB ⟨c, t, ⟨x, n⟩⟩) := hX 21
  clear hX c0 c1 c2 c3
  go_wp2
  go_ret
  exact ⟨v21, rfl, e0.trans he4, hr⟩

theorem AnswerBytes_any (c t x n : Int) (w : World) :
    Gives Try.prog 16 #[AN ⟨c, t, ⟨x, n⟩⟩] w fun v w' => Bytes w' v (ansB ⟨c, t, ⟨x, n⟩⟩) := (AnswerBytes_own c t x n w).mono fun _ _ _ h => h.bytes

end Go.Proofs.Ytdmipnnfoolelac

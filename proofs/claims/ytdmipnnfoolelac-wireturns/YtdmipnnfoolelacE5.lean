/- Walks: bytes of requests and answers, by package wire. -/
import Derived.Test.YtdmipnnfoolelacE4
namespace Go.Proofs.Ytdmipnnfoolelac
open Go.RowKit Go.Mk

theorem lit_at {w : World} {base e : Nat} (b : Nat) (cs : Array Value) (n : Nat) (hb : w.heap.size = b) (hbase : base ≤ b) (hm : n ≤ maxLen) (hc : cs.size = n) : (w.alloc (.cells cs e)).ownsRow base e 1 (.slice (some ⟨b, 0, none⟩) n n) n cs.toList := by
  subst hb
  exact World.ownsRow_lit (base := base) (e := e) (size := 1) w cs n hbase hm (by omega)

theorem req_cells (c t k a o n : Int) : [Value.int .u8 113, .int .u8 (c % 256), .int .u8 (t % 256), .int .u8 (k % 256), .int .u8 (a % 256), .int .u8 (o % 256)] ++ (fourB n).map U = (reqB ⟨c, t, ⟨k, a, o, n⟩⟩).map U := by
  rw [byteU, byteU, byteU, byteU, byteU]
  unfold reqB
  rw [List.map_append]
  rfl
theorem ans_cells (c t e0 n : Int) : [Value.int .u8 97, .int .u8 (c % 256), .int .u8 (t % 256), .int .u8 (e0 % 256)] ++ (fourB n).map U = (ansB ⟨c, t, ⟨e0, n⟩⟩).map U := by
  rw [byteU, byteU, byteU]
  unfold ansB
  rw [List.map_append]
  rfl

set_option maxHeartbeats 1000000 in
theorem Request_any (c t k a o n : Int) (w : World) :
    Calls Try.prog 13 #[RQ ⟨c, t, ⟨k, a, o, n⟩⟩] w fun e w' => ∃ v', e = .returned v' ∧ w'.ownsRow w.heap.size 5 1 v' 10 ((reqB ⟨c, t, ⟨k, a, o, n⟩⟩).map U) ∧ Ext w w' := by
  go_enter Try.func13, Try.ntmps13
  go_wp2_with fail
  refine (appendNumber_any w.heap.size _ _ 6 n _ (lit_at (w.heap.size + 1 + 1) _ 6 (by simp) (by omega) (by decide) rfl) (by decide) (by simp; omega)).mono ?_
  rintro e w1 ⟨v', rfl, ho, hg⟩
  have e1 : Ext w w1 := Ext.grown ((((Ext.refl w).alloc _).alloc _).alloc _) hg (fun j hj => by simp [Value.ownBlock] at hj; omega)
  clear hg
  go_wp2
  go_ret
  exact ⟨v', rfl, by rw [← req_cells]; exact ho, e1⟩

set_option maxHeartbeats 1000000 in
theorem Answer_any (c t e0 n : Int) (w : World) :
    Calls Try.prog 15 #[AN ⟨c, t, ⟨e0, n⟩⟩] w fun e w' => ∃ v', e = .returned v' ∧ w'.ownsRow w.heap.size 5 1 v' 8 ((ansB ⟨c, t, ⟨e0, n⟩⟩).map U) ∧ Ext w w' := by
  go_enter Try.func15, Try.ntmps15
  go_wp2_with fail
  refine (appendNumber_any w.heap.size _ _ 4 n _ (lit_at (w.heap.size + 1) _ 4 (by simp) (by omega) (by decide) rfl) (by decide) (by simp; omega)).mono ?_
  rintro e w1 ⟨v', rfl, ho, hg⟩
  have e1 : Ext w w1 := Ext.grown (((Ext.refl w).alloc _).alloc _) hg (fun j hj => by simp [Value.ownBlock] at hj; omega)
  clear hg
  go_wp2
  go_ret
  exact ⟨v', rfl, by rw [← ans_cells]; exact ho, e1⟩

end Go.Proofs.Ytdmipnnfoolelac

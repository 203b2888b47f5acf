/- Walks: bytes of requests and answers. -/
import Derived.Test.YtdmipnnfoolelacE3
namespace Go.Proofs.Ytdmipnnfoolelac
open Go.RowKit Go.Mk

theorem Try.infoByte : (Try.prog.info? 5).map (fun i => (i.zero, i.size, i.bytes)) = some (some (.int .u8 0), 1, 1) := by kernel_rfl

theorem byteU (n : Int) : (Value.int .u8 (n % 256)) = U (Mk.byteOf n) := by
  unfold Mk.byteOf
  refine congrArg (Value.int .u8) ?_
  rw [UInt8.toNat_ofNat']
  omega

theorem four_cells (n : Int) : [Value.int .u8 (n % 4294967296 / 16777216), .int .u8 (n % 4294967296 / 65536 % 256), .int .u8 (n % 4294967296 / 256 % 256), .int .u8 (n % 256)] = (fourB n).map U := by
  unfold fourB u32
  simp only [List.map_cons, List.map_nil, U, UInt8.toNat_ofNat']
  refine congr (congrArg List.cons (congrArg (Value.int .u8) ?_)) (congr (congrArg List.cons (congrArg (Value.int .u8) ?_)) (congr (congrArg List.cons (congrArg (Value.int .u8) ?_)) (congrArg (fun x => [Value.int .u8 x]) ?_)))
  all_goals omega

set_option maxHeartbeats 1000000 in
theorem four_any (n : Int) (w : World) :
    Calls Try.prog 42 #[I n] w fun e w' => e = .returned (.string ⟨(fourB n).toArray⟩) ∧ Ext w w' := by
  have hcv := run_string_of (P := Try.prog) (bytes_lit (w := w) 5 (fourB n) #[.int .u8 (n % 4294967296 / 16777216), .int .u8 (n % 4294967296 / 65536 % 256), .int .u8 (n % 4294967296 / 256 % 256), .int .u8 (n % 256)] 4 (four_cells n) rfl (by decide)) Try.underlying31 Try.underlying5 Try.underlying9
  go_enter Try.func42, Try.ntmps42
  go_wp2
  go_ret
  exact ⟨rfl, (Ext.refl w).alloc _⟩

set_option maxHeartbeats 1000000 in
theorem appendNumber_any (base : Nat) (v : Value) (cs : List Value) (k : Nat) (n : Int) (w : World) (hv : w.ownsRow base 5 1 v k cs) (hk : k ≤ 100) (hb : base ≤ w.heap.size) :
    Calls Try.prog 41 #[v, I n] w fun e w' => ∃ v', e = .returned v' ∧ w'.ownsRow base 5 1 v' (k + 4) (cs ++ (fourB n).map U) ∧ w.grownBy w' v.ownBlock := by
  have hlit := bytes_lit (w := w) 5 (fourB n) #[.int .u8 (n % 4294967296 / 16777216), .int .u8 (n % 4294967296 / 65536 % 256), .int .u8 (n % 4294967296 / 256 % 256), .int .u8 (n % 256)] 4 (four_cells n) rfl (by decide)
  have hgr : w.grownBy (w.alloc (.cells #[.int .u8 (n % 4294967296 / 16777216), .int .u8 (n % 4294967296 / 65536 % 256), .int .u8 (n % 4294967296 / 256 % 256), .int .u8 (n % 256)] 5)) v.ownBlock := Ext.grownBy ((Ext.refl w).alloc _) _
  have HV := Lib.hid hv
  clear hv
  go_enter Try.func41, Try.ntmps41
  go_wp2_with (at_builtin; refine stop_at ?_)
  unfold Hid
  obtain ⟨i0, hi, hz0, hz1, hz2⟩ := info_parts Try.infoByte
  refine wpList_append_row _ rfl (.tmp 8) (.tmp 20) 31 rfl base 5 i0 (.int .u8 0) 1 1 Try.underlying31 hi hz0 hz1 hz2 rfl (by decide) v k cs rfl (HV.out.alloc _) _ rfl 4 ((fourB n).map U) hlit (mapU_one _) (by omega) (by decide) (by simp; omega) ?_
  intro v' w' ho hg
  clear hi hz0 hz1 hz2 hlit
  go_wp2
  go_ret
  exact ⟨v', rfl, ho, grown_trans hgr hg⟩

end Go.Proofs.Ytdmipnnfoolelac

/- Walks: numbers in four bytes, and out of them. -/
import Derived.Test.YtdmipnnfoolelacE2
import Derived.Laws.BitsAllLaws
namespace Go.Proofs.Ytdmipnnfoolelac
open Go.RowKit Go.Mk

set_option maxHeartbeats 400000 in
theorem formed_any (v : Value) (l : List UInt8) (m : UInt8) (n : Nat) (hn : 0 < n) (w : World) (hv : Bytes w v l) :
    Calls Try.prog 43 #[v, U m, I n] w fun e w' => e = .returned (.bool (decide (l.length = n ∧ l.getD 0 0 = m))) ∧ w' = w := by
  obtain ⟨ao, cap, rfl, h1, h2, h3⟩ := hv.form
  unfold maxLen at h2
  clear hv
  by_cases hl : l.length = n
  · obtain ⟨b, off, rfl, hc⟩ := h3 0 (by omega)
    clear h3
    simp only [Nat.add_zero] at hc
    rw [hl] at h1 ⊢
    generalize l.getD 0 0 = x at *
    have hu : ((x.toNat : Int) == (m.toNat : Int)) = decide (x = m) := by
      rw [Bool.eq_iff_iff]; simp; exact ⟨fun h => UInt8.toNat_inj.1 (by omega), fun h => by rw [h]⟩
    go_enter Try.func43, Try.ntmps43
    go_wp2
    go_ret
    exact ⟨by simp, rfl⟩
  · have hne : (((l.length : Int)) == (n : Int)) = false := by rw [beq_eq_false_iff_ne]; omega
    clear h3
    go_enter Try.func43, Try.ntmps43
    go_wp2
    go_ret
    exact ⟨by simp [hl], rfl⟩

theorem or_below (x y i m : Nat) (hm : m = 2 ^ i) (h : y < m) : (x * m) ||| y = x * m + y := by
  subst hm
  rw [← Nat.shiftLeft_eq, Nat.shiftLeft_add_eq_or_of_lt h]

theorem be32 (a b c d : Nat) (ha : a < 256) (hb : b < 256) (hc : c < 256) (hd : d < 256) :
    bits BinOp.or IntKind.u32 (bits BinOp.or IntKind.u32 (bits BinOp.or IntKind.u32 ((a : Int) % 4294967296 * 16777216 % 4294967296) ((b : Int) % 4294967296 * 65536 % 4294967296)) ((c : Int) % 4294967296 * 256 % 4294967296)) ((d : Int) % 4294967296)
      = ((((a * 256 + b) * 256 + c) * 256 + d : Nat) : Int) := by
  have e0 : ((a : Int) % 4294967296 * 16777216 % 4294967296) = ((a * 16777216 : Nat) : Int) := by omega
  have e1 : ((b : Int) % 4294967296 * 65536 % 4294967296) = ((b * 65536 : Nat) : Int) := by omega
  have e2 : ((c : Int) % 4294967296 * 256 % 4294967296) = ((c * 256 : Nat) : Int) := by omega
  have e3 : ((d : Int) % 4294967296) = ((d : Nat) : Int) := by omega
  rw [e0, e1, e2, e3, u32_or_nat _ _ (by omega) (by omega), or_below a (b * 65536) 24 16777216 (by decide) (by omega),
    show a * 16777216 + b * 65536 = (a * 256 + b) * 65536 by omega, u32_or_nat _ _ (by omega) (by omega), or_below (a * 256 + b) (c * 256) 16 65536 (by decide) (by omega),
    show (a * 256 + b) * 65536 + c * 256 = ((a * 256 + b) * 256 + c) * 256 by omega, u32_or_nat _ _ (by omega) (by omega), or_below _ d 8 256 (by decide) (by omega)]

theorem int32_wrap (n : Nat) (h : n < 4294967296) : wrap64 (wrap32 (n : Int)) = int32 n := by
  unfold wrap64 wrap32 int32
  split <;> omega

theorem number_sum (a b c d : UInt8) : wrap64 (wrap32 (bits BinOp.or IntKind.u32 (bits BinOp.or IntKind.u32 (bits BinOp.or IntKind.u32 ((a.toNat : Int) % 4294967296 * 16777216 % 4294967296) ((b.toNat : Int) % 4294967296 * 65536 % 4294967296)) ((c.toNat : Int) % 4294967296 * 256 % 4294967296)) ((d.toNat : Int) % 4294967296))) = numB [a, b, c, d] := by
  have ha := a.toNat_lt
  have hb := b.toNat_lt
  have hc := c.toNat_lt
  have hd := d.toNat_lt
  rw [be32 _ _ _ _ ha hb hc hd, int32_wrap _ (by omega)]
  rfl

set_option maxHeartbeats 1000000 in
theorem number_any (v : Value) (a b c d : UInt8) (w : World) (hv : Bytes w v [a, b, c, d]) :
    Calls Try.prog 44 #[v] w fun e w' => e = .returned (I (numB [a, b, c, d])) ∧ Ext w w' := by
  obtain ⟨ao, cap, rfl, h1, h2, h3⟩ := hv.form
  unfold maxLen at h2
  clear hv
  obtain ⟨b0, off, rfl, c0⟩ := h3 0 (by simp)
  obtain ⟨_, _, e1, c1⟩ := h3 1 (by simp)
  obtain ⟨_, _, e2, c2⟩ := h3 2 (by simp)
  obtain ⟨_, _, e3, c3⟩ := h3 3 (by simp)
  simp only [Option.some.injEq, Addr.mk.injEq, and_true] at e1 e2 e3
  obtain ⟨rfl, rfl⟩ := e1
  obtain ⟨rfl, rfl⟩ := e2
  obtain ⟨rfl, rfl⟩ := e3
  clear h3
  simp only [Nat.add_zero, List.getD_cons_zero, List.getD_cons_succ, List.length_cons, List.length_nil] at *
  go_enter Try.func44, Try.ntmps44
  go_wp2_with fail
  go_region
  go_wp2
  go_ret
  exact ⟨ret_int (number_sum a b c d), (Ext.refl w).drew⟩

set_option maxHeartbeats 1000000 in
theorem num_any (v : Value) (a b c d : UInt8) (w : World) (hv : Bytes w v [a, b, c, d]) :
    Calls Try.prog 45 #[v] w fun e w' => e = .returned (I (numB [a, b, c, d])) ∧ Ext w w' := by
  obtain ⟨ao, cap, rfl, h1, h2, h3⟩ := hv.form
  unfold maxLen at h2
  clear hv
  obtain ⟨b0, off, rfl, c0⟩ := h3 0 (by simp)
  obtain ⟨_, _, e1, c1⟩ := h3 1 (by simp)
  obtain ⟨_, _, e2, c2⟩ := h3 2 (by simp)
  obtain ⟨_, _, e3, c3⟩ := h3 3 (by simp)
  simp only [Option.some.injEq, Addr.mk.injEq, and_true] at e1 e2 e3
  obtain ⟨rfl, rfl⟩ := e1
  obtain ⟨rfl, rfl⟩ := e2
  obtain ⟨rfl, rfl⟩ := e3
  clear h3
  simp only [Nat.add_zero, List.getD_cons_zero, List.getD_cons_succ, List.length_cons, List.length_nil] at *
  go_enter Try.func45, Try.ntmps45
  go_wp2
  go_loop [3, 5] (fun u i => (i = I 0 ∧ u = .int .u32 0) ∨ (i = I 1 ∧ u = .int .u32 (a.toNat : Int)) ∨ (i = I 2 ∧ u = .int .u32 ((a.toNat * 256 + b.toNat : Nat) : Int)) ∨ (i = I 3 ∧ u = .int .u32 (((a.toNat * 256 + b.toNat) * 256 + c.toNat : Nat) : Int)) ∨
      (i = I 4 ∧ u = .int .u32 ((((a.toNat * 256 + b.toNat) * 256 + c.toNat) * 256 + d.toNat : Nat) : Int))) (fun _ i => 4 - (intOf i).toNat)
  case atStart => exact .inl ⟨rfl, rfl⟩
  case round =>
    have ha := a.toNat_lt
    have hb := b.toNat_lt
    have hc := c.toNat_lt
    have hd := d.toNat_lt
    rcases hrel with ⟨rfl, rfl⟩ | ⟨rfl, rfl⟩ | ⟨rfl, rfl⟩ | ⟨rfl, rfl⟩ | ⟨rfl, rfl⟩
    · go_wp2
      go_round
      case rel => exact .inr (.inl ⟨rfl, by simp⟩)
      case measure => simp [intOf]
    · go_wp2
      go_round
      case rel => exact .inr (.inr (.inl ⟨rfl, congrArg (Value.int .u32) (by omega)⟩))
      case measure => simp [intOf]
    · go_wp2
      go_round
      case rel => exact .inr (.inr (.inr (.inl ⟨rfl, congrArg (Value.int .u32) (by omega)⟩)))
      case measure => simp [intOf]
    · go_wp2
      go_round
      case rel => exact .inr (.inr (.inr (.inr ⟨rfl, congrArg (Value.int .u32) (by omega)⟩)))
      case measure => simp [intOf]
    · go_wp2
      go_ret
      exact ⟨ret_int (Eq.trans (congrArg (fun x => wrap64 (wrap32 x)) (by omega)) (int32_wrap (((a.toNat * 256 + b.toNat) * 256 + c.toNat) * 256 + d.toNat) (by omega))), Ext.refl w⟩

end Go.Proofs.Ytdmipnnfoolelac

/- Walks: how the document parses. -/
import Derived.Test.YtdmipnnfoolelabDoorD7
namespace Go.Proofs.YtdmipnnfoolelabDoor
open Go.RowKit Go.Mk

/-- Lines ahead of the place k, of which the last begins at a. -/
def Lines (s : Bs) (k a : Nat) (acc : List Cl) : Prop := a ≤ k ∧ parseCl s = parseFrom acc (s.drop a) ∧ (10 : UInt8) ∉ (s.drop a).take (k - a)
theorem lines_zero (s : Bs) : Lines s 0 0 [] := ⟨Nat.le_refl _, by simpa using parse_from s, by simp⟩
theorem lines_next {s : Bs} {k a : Nat} {acc : List Cl} (h : Lines s k a acc) (hb : s[k]? ≠ some 10) : Lines s (k + 1) a acc :=
  ⟨by have := h.1; omega, h.2.1, take_next h.1 hb h.2.2⟩
theorem lines_cut {s : Bs} {k a : Nat} {acc : List Cl} (h : Lines s k a acc) (hb : s[k]? = some 10) : parseCl s = if (readCl ((s.drop a).take (k - a))).2 ≠ 0 then ([], (readCl ((s.drop a).take (k - a))).2) else parseFrom (acc ++ [(readCl ((s.drop a).take (k - a))).1]) (s.drop (k + 1)) :=
  parse_at h.2.1 h.1 hb h.2.2
theorem lines_on {s : Bs} {k : Nat} {acc : List Cl} (h : parseCl s = parseFrom acc (s.drop (k + 1))) : Lines s (k + 1) (k + 1) acc := ⟨Nat.le_refl _, h, by simp⟩

set_option maxHeartbeats 8000000 in
theorem refParse_b (bs : ByteArray) (hs : bs.size ≤ 10000000) (w : World) (hv : Vars w) : Calls Tryd.prog 9 #[.string bs] w fun e w' => Parsed w (parseCl bs.data.toList) e w' := by
  have hsl : bs.data.toList.length = bs.size := (Lib.size_eq bs).symm
  have HSLI := Lib.hid (fun a k => B_slice bs a k)
  have HGET := Lib.hid (fun k h => B_get bs k h)
  have HSL := Lib.hid hsl
  clear hsl
  generalize bs.data.toList = s at *
  go_enter Tryd.func9, Tryd.ntmps9
  go_wp2
  go_loopw [4, 5, 11] (fun v f i wr => ∃ (k a : Nat) (acc : List Cl), i = I k ∧ f = I a ∧ acc.length ≤ k ∧ k ≤ bs.size ∧ wr.ownsRow w.heap.size 23 4 v acc.length (cells4 acc) ∧ Ext w wr ∧ Lines s k a acc) (fun _ _ i _ => bs.size - (intOf i).toNat)
  case atStart => exact ⟨0, 0, [], rfl, rfl, Nat.le_refl _, by omega, World.ownsRow_nil _ _ _ _, Ext.refl _, lines_zero s⟩
  case round =>
    obtain ⟨k, a, acc, rfl, rfl, hpk, hks, ho, he, hln⟩ := hrel
    have HLN := Lib.hid hln
    have hak := hln.1
    have hvr := hv.ext he
    clear hln
    by_cases hlt : k < bs.size
    · have hc := HGET.out k hlt
      have hu := u8_eq (bs[k]'hlt) 10 (by decide)
      have HC := Lib.hid hc
      have hz2 : (k : Int) < (bs.size : Int) := by omega
      have hab : (a : Int) ≤ (k : Int) := by omega
      have hkb : (k : Int) ≤ (bs.size : Int) := by omega
      clear hc
      by_cases hb : bs[k]'hlt = 10
      case neg =>
        have HB := Lib.hid hb
        rw [show decide (bs[k]'hlt = UInt8.ofNat 10) = false from decide_eq_false hb] at hu
        clear hb
        go_wp2
        go_roundw
        case rel =>
          refine ⟨k + 1, a, acc, by go_num, rfl, by omega, by omega, ho, he, lines_next HLN.out ?_⟩
          rw [HC.out]
          intro e
          exact HB.out (Option.some.inj e)
        case measure => simp [intOf]; omega
      rw [show decide (bs[k]'hlt = UInt8.ofNat 10) = true from decide_eq_true hb] at hu
      have hcut := lines_cut HLN.out (by rw [HC.out, hb])
      have hql : ((s.drop a).take (k - a)).length ≤ 10000000 := by
        rw [List.length_take, List.length_drop, HSL.out]
        omega
      have hcall : ∀ wx, Vars wx → Calls Tryd.prog 7 #[.string (bs.extract a k)] wx fun e w' => e = .returned (.tuple #[A (readCl ((s.drop a).take (k - a))).1, I (readCl ((s.drop a).take (k - a))).2]) ∧ Ext wx w' := fun wx hx => by
        rw [HSLI.out a k]
        exact refReadCall_any _ hql wx hx
      clear hb HC HSLI HGET HLN hql
      generalize readCl ((s.drop a).take (k - a)) = q at hcut hcall
      obtain ⟨c, er⟩ := q
      simp only [] at hcut hcall
      by_cases h0 : er = 0
      case neg =>
        have heb : (er == 0) = false := by simpa using h0
        have HN : Hid (parseCl s = ([], er)) := by unfold Hid; rw [hcut, if_pos h0]
        clear hcut
        go_wp2_with (go_at_call 7; refine Calls.exts (hcall _ hvr) ?_; intro w3 e3)
        go_ret2
        exact ⟨_, by rw [HN.out]; rfl, (he.trans e3).alloc _, by rw [HN.out]; exact cls_nil _⟩
      subst h0
      have HN : Hid (Lines s (k + 1) (k + 1) (acc ++ [c])) := by
        refine lines_on ?_
        rw [hcut, if_neg (by simp)]
      clear hcut
      go_wp2_with (first
        | (go_at_call 7; refine Calls.exts (hcall _ hvr) ?_; intro w3 e3)
        | (at_builtin; refine stop_at ?_))
      unfold Hid
      obtain ⟨i0, hi, hz0, hz1, hz3⟩ := info_parts Tryd.infoCall
      refine wpList_append_row _ rfl (.tmp 29) (.tmp 31) 27 rfl w.heap.size 23 i0 (.agg #[.int .i64 0, .int .i64 0, .int .i64 0, .int .i64 0]) 4 32 Tryd.underlying27 hi hz0 hz1 hz3 rfl (by decide) u4 acc.length (cells4 acc) rfl (((owns_ext ho e3).alloc _).alloc _) _ rfl 1 (cells4 [c]) (cls_one _ c) (cells4_one [c]) (by omega) (by decide) (by have := he.size; have := e3.size; simp; omega) ?_
      intro o' w4 ho4 hg4
      have he4 : Ext w w4 := (((he.trans e3).alloc _).alloc _).grown hg4 (fun j hj => (ho.lt j hj).1)
      have ho5 : w4.ownsRow w.heap.size 23 4 o' (acc ++ [c]).length (cells4 (acc ++ [c])) := by
        rw [cells4_append, List.length_append]
        exact ho4
      clear hg4 hi hz0 hz1 hz3 hcall ho ho4 hvr
      go_wp2
      go_roundw
      case rel => exact ⟨k + 1, k + 1, acc ++ [c], by go_num, by go_num, by simp; omega, by omega, ho5, he4, HN.out⟩
      case measure => simp [intOf]; omega
    · have hkl : k = bs.size := by omega
      have hcl := cls_of_owns ho
      clear ho
      obtain ⟨ao, cap, rfl, x1, x2, -⟩ := hcl.form
      have HC := Lib.hid hcl
      unfold maxLen at x2
      obtain ⟨h1, h2, h3⟩ := HLN.out
      have hdr : (s.drop a).take (k - a) = s.drop a := List.take_of_length_le (by rw [List.length_drop, HSL.out, hkl]; exact Nat.le_refl _)
      rw [hdr] at h3
      have hdl : (s.drop a).length = bs.size - a := by rw [List.length_drop, HSL.out]
      have hnl : ¬ (k : Int) < (bs.size : Int) := by omega
      clear hcl hdr HSLI HGET HLN HSL hvr
      by_cases hab : a < bs.size
      · have hz : (a : Int) < (bs.size : Int) := by omega
        have HN : Hid (parseCl s = ([], 8)) := by
          unfold Hid
          rw [h2]
          exact from_end acc (fun e => by rw [e] at hdl; simp at hdl; omega) h3
        clear h2 h3 hdl hkl
        go_wp2
        go_ret2
        exact ⟨_, by rw [HN.out]; rfl, he, by rw [HN.out]; exact cls_nil _⟩
      · have hz : ¬ (a : Int) < (bs.size : Int) := by omega
        have hnil : s.drop a = [] := List.eq_nil_of_length_eq_zero (by rw [hdl]; omega)
        rw [hnil, from_nil] at h2
        have HN := Lib.hid h2
        clear h2 h3 hdl hkl hnil
        by_cases h8 : 8 < acc.length
        · have hz8 : (8 : Int) < (acc.length : Int) := by omega
          go_wp2
          go_ret2
          exact ⟨_, by rw [HN.out, if_pos h8]; rfl, he, by rw [HN.out, if_pos h8]; exact cls_nil _⟩
        · have hz8 : ¬ (8 : Int) < (acc.length : Int) := by omega
          go_wp2
          go_ret2
          exact ⟨_, by rw [HN.out, if_neg h8]; rfl, he, by rw [HN.out, if_neg h8]; exact HC.out⟩

theorem refParse_any (s : Bs) (hs : s.length ≤ 10000000) (w : World) (hv : Vars w) : Calls Tryd.prog 9 #[S s] w fun e w' => ∃ ao cap, e = .returned (.tuple #[.slice ao (parseCl s).1.length cap, I (parseCl s).2]) ∧ Ext w w' ∧ Cls w' (.slice ao (parseCl s).1.length cap) (parseCl s).1 :=
  (refParse_b ⟨s.toArray⟩ (by rw [Lib.size_eq]; exact hs) w hv).mono fun e w' ⟨v, he, hx, hc⟩ => by
    obtain ⟨ao, cap, rfl, -⟩ := hc.form
    exact ⟨ao, cap, he, hx, hc⟩

end Go.Proofs.YtdmipnnfoolelabDoor

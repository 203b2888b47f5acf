/- Walks: what answers something; texts one behind the other. -/
import Derived.Test.YtdmipnnfoolelabDoorT8
namespace Go.Proofs.YtdmipnnfoolelabDoor
open Go.RowKit Go.Mk

theorem itoa_small (d : Nat) (h : d < 10) : Lib.itoa (d : Int) = [UInt8.ofNat (48 + d)] := by
  unfold Lib.itoa
  rw [if_neg (by omega)]
  show Lib.decDigits d = _
  rw [Lib.decDigits, dif_pos h]
theorem itoa_minus (d : Nat) (h0 : 0 < d) (h : d < 10) : Lib.itoa (-(d : Int)) = [45, UInt8.ofNat (48 + d)] := by
  unfold Lib.itoa
  rw [if_pos (by omega)]
  have e : (-(d : Int)).natAbs = d := by omega
  rw [e, Lib.decDigits, dif_pos h]

def swapT : Bs := [115, 119, 97, 112, 32, 51, 32, 52]
def twoT : Bs := [99, 111, 117, 110, 116, 10, 112, 117, 116, 32, 55, 32, 45, 53, 10]
theorem swap_text : callText ⟨6, 3, 4, 0⟩ = swapT := by
  show joinB 32 [[115, 119, 97, 112], Lib.itoa 3, Lib.itoa 4] = _
  rw [show Lib.itoa 3 = [51] from itoa_small 3 (by decide), show Lib.itoa 4 = [52] from itoa_small 4 (by decide)]
  rfl
theorem two_text : printCl [⟨5, 0, 0, 0⟩, ⟨1, 7, 0, -5⟩] = twoT := by
  show (joinB 32 [[99, 111, 117, 110, 116]] ++ [10]) ++ ((joinB 32 [[112, 117, 116], Lib.itoa 7, Lib.itoa (-5)] ++ [10]) ++ []) = _
  rw [show Lib.itoa 7 = [55] from itoa_small 7 (by decide), show Lib.itoa (-5) = [45, 53] from itoa_minus 5 (by decide) (by decide)]
  rfl
theorem swap_read : readCl swapT = (⟨6, 3, 4, 0⟩, 0) := by rw [← swap_text]; exact readCl_call (by decide)
theorem two_parse : parseCl twoT = ([⟨5, 0, 0, 0⟩, ⟨1, 7, 0, -5⟩], 0) := by
  rw [← two_text, parse_print (by decide)]
  rfl

set_option maxHeartbeats 2000000 in
theorem alive_any (w : World) (hv : Vars w) : Calls Tryd.prog 16 #[] w fun e w' => e = .returned (.bool true) ∧ Ext w w' := by
  have c1 : ∀ wx, Vars wx → Calls Tryd.prog 6 #[.string ⟨#[115, 119, 97, 112, 32, 51, 32, 52]⟩] wx fun e w' => e = .returned (.tuple #[.agg #[I 6, I 3, I 4, I 0], I 0]) ∧ Ext wx w' := fun wx hx => by
    have := readCall_any swapT (by decide) wx hx
    rw [swap_read] at this
    exact this
  have c2 : ∀ wx, Vars wx → Calls Tryd.prog 8 #[.string ⟨#[99, 111, 117, 110, 116, 10, 112, 117, 116, 32, 55, 32, 45, 53, 10]⟩] wx fun e w' => ∃ ao cap, e = .returned (.tuple #[.slice ao 2 cap, I 0]) ∧ Ext wx w' ∧ Cls w' (.slice ao 2 cap) [⟨5, 0, 0, 0⟩, ⟨1, 7, 0, -5⟩] := fun wx hx => by
    have := parse_any twoT (by decide) wx hx
    rw [two_parse] at this
    refine this.mono fun e w' ⟨v, he, hx, hc⟩ => ?_
    obtain ⟨ao, cap, rfl, -⟩ := hc.form
    exact ⟨ao, cap, he, hx, hc⟩
  have c3 : ∀ wx, Vars wx → Calls Tryd.prog 12 #[.agg #[I 6, I 3, I 4, I 0]] wx fun e w' => e = .returned (.string ⟨#[115, 119, 97, 112, 32, 51, 32, 52]⟩) ∧ Ext wx w' := fun wx hx => by
    have := call_any ⟨6, 3, 4, 0⟩ (by decide) wx hx
    rw [swap_text] at this
    exact this
  have c4 : ∀ wx v, Vars wx → Cls wx v [⟨5, 0, 0, 0⟩, ⟨1, 7, 0, -5⟩] → Calls Tryd.prog 14 #[v] wx fun e w' => e = .returned (.string ⟨#[99, 111, 117, 110, 116, 10, 112, 117, 116, 32, 55, 32, 45, 53, 10]⟩) ∧ Ext wx w' := fun wx v hx hc => by
    have := print_any v _ wx hc (by decide) (by decide) hx
    rw [two_text] at this
    exact this
  go_enter Tryd.func16, Tryd.ntmps16
  go_wp2_with (first
    | (go_at_call 6; refine Calls.exts (c1 _ hv) ?_; intro w1 e1; have b1 := fun wx (hx : Ext (w1.alloc (.cells #[I 6, I 3, I 4, I 0] 23)) wx) => box4 (block_ext hx))
    | (go_at_call 8; refine (c2 _ (hv.ext (e1.alloc _))).mono ?_; rintro e w2 ⟨ao, cap, rfl, e2, hc⟩; obtain ⟨x0, x1, x2, x3, -⟩ := b1 _ e2; have m2 := (e1.alloc _).trans e2)
    | (go_at_call 12; refine Calls.exts (c3 _ (hv.ext m2)) ?_; intro w3 e3)
    | (go_at_call 14; refine Calls.exts (c4 _ _ (hv.ext (m2.trans e3)) (hc.ext e3)) ?_; intro w4 e4))
  go_ret
  exact ⟨rfl, (m2.trans e3).trans e4⟩

end Go.Proofs.YtdmipnnfoolelabDoor

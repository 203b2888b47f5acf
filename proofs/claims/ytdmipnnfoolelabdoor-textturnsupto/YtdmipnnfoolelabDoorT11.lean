/- Walk: TextTurns. -/
import Derived.Test.YtdmipnnfoolelabDoorT10
import Derived.Test.YtdmipnnfoolelabDoorM1b
namespace Go.Proofs.YtdmipnnfoolelabDoor
open Go.RowKit Go.Mk

/-- No more than may be, and the first k are right. -/
def fineOf (l : List Cl) (k : Nat) : Bool := decide (l.length ≤ 8) && (l.take k).all fun c => wrongCl c == 0

theorem fineOf_zero (l : List Cl) : fineOf l 0 = decide (l.length ≤ 8) := by simp [fineOf]
theorem fineOf_next (l : List Cl) (k : Nat) (h : k < l.length) : fineOf l (k + 1) = (fineOf l k && (wrongCl (l.getD k zeroCl) == 0)) := by
  have : Inhabited Cl := ⟨zeroCl⟩
  unfold fineOf
  rw [take_next' l k h zeroCl]
  simp [Bool.and_assoc]
theorem fineOf_all {l : List Cl} (h : fineOf l l.length = true) : l.length ≤ 8 ∧ ∀ c ∈ l, wrongCl c = 0 := by
  unfold fineOf at h
  rw [List.take_of_length_le (Nat.le_refl _)] at h
  simpa using h

/-- The second half: a text that is read is its calls'. -/
def TurnsBack (s : Bs) : Prop := (parseCl s).2 = 0 → printCl (parseCl s).1 = s ∧ (parseCl s).1.length ≤ 8 ∧ ∀ c ∈ (parseCl s).1, wrongCl c = 0
theorem turns_back (s : Bs) : TurnsBack s := fun h => print_parse (Prod.ext rfl h)

set_option maxHeartbeats 4000000 in
theorem TextTurns_any (s : Bs) (v : Value) (l : List Cl) (hs : s.length ≤ 10000000) (w : World) (hl : Cls w v l) (hv : Vars w) :
    Calls Tryd.prog 5 #[S s, v] w fun e w' => e = .returned (.bool true) ∧ Ext w w' := by
  have p1 := fun wx hx => parse_at_call s (by omega) wx hx
  have hback := turns_back s
  unfold TurnsBack at hback
  generalize parseCl s = r1 at p1 hback
  obtain ⟨m, es⟩ := r1
  simp only [] at p1 hback
  have hal := fun wx hx => alive_any wx hx
  obtain ⟨ao, cap, rfl, h1, h2, h3⟩ := hl.form
  unfold maxLen at h2
  have HL : Hid (Cls w (.slice ao l.length cap) l) := hl
  clear hl
  have hz : fineOf l 0 = decide (l.length ≤ 8) := fineOf_zero l
  have HZ := Lib.hid hz
  clear hz
  have HBK := Lib.hid hback
  clear hback
  go_enter Tryd.func5, Tryd.ntmps5
  go_wp2_with (first
    | (go_at_call 16; refine Calls.exts (hal _ hv) ?_; intro w1 e1))
  go_loopw [5, 19] (fun f i wr => ∃ k : Nat, k ≤ l.length ∧ i = I k ∧ f = .bool (fineOf l k) ∧ Ext w wr) (fun _ i _ => l.length - (intOf i).toNat)
  case atStart => exact ⟨0, by omega, rfl, by rw [HZ.out]; simp; omega, e1⟩
  case round =>
    obtain ⟨k, hk, rfl, rfl, he⟩ := hrel
    by_cases hlt : k < l.length
    · obtain ⟨b, off, rfl, c1, c2, c3, c4⟩ := h3 k hlt
      have d1 := he.cell c1
      have d2 := he.cell c2
      have d3 := he.cell c3
      have d4 := he.cell c4
      have HN := Lib.hid (fineOf_next l k hlt)
      have hwc := fun wx => refWrongCall_any (l.getD k zeroCl).kind (l.getD k zeroCl).name (l.getD k zeroCl).other (l.getD k zeroCl).n wx
      clear c1 c2 c3 c4 h3 p1 hal
      generalize l.getD k zeroCl = c at *
      obtain ⟨ck, ca, co, cn⟩ := c
      simp only [] at d1 d2 d3 d4 hwc
      generalize wrongCl ⟨ck, ca, co, cn⟩ = er at *
      generalize fineOf l k = fb at *
      cases fb
      · go_wp2
        go_roundw
        case rel => exact ⟨k + 1, by omega, by go_num, by rw [HN.out]; rfl, he.alloc _⟩
        case measure => simp [intOf]; omega
      · go_wp2_with (go_at_call 11; refine Calls.exts (hwc _) ?_; intro w2 e2)
        go_roundw
        case rel => exact ⟨k + 1, by omega, by go_num, by rw [HN.out]; rfl, (he.alloc _).trans e2⟩
        case measure => simp [intOf]; omega
    · have hkl : k = l.length := by omega
      have hfin := fineOf_all (l := l)
      rw [← hkl] at hfin
      have HF := Lib.hid hfin
      have HKL := Lib.hid hkl
      clear hfin hkl h3
      generalize fineOf l k = fb at *
      by_cases hes : es = 0
      case neg =>
        have heb : (es == 0) = false := by simpa using hes
        clear HBK
        cases fb
        · go_wp2_with (go_at_call 8; refine (p1 _ (hv.ext he)).mono ?_; rintro e w2 ⟨ao1, cap1, rfl, e2, hc1⟩)
          go_ret
          exact ⟨rfl, he.trans e2⟩
        · obtain ⟨hn8, hall⟩ := HF.out rfl
          have hpr := fun wx (hx : Ext w wx) => print_any (.slice ao l.length cap) l wx (HL.out.ext hx) hall (by omega) (hv.ext hx)
          have hpa := fun wx (hx : Vars wx) => parse_at_call (printCl l) (by have := print_len hall; omega) wx hx
          have hpp := parse_print hall
          rw [if_neg (by omega)] at hpp
          rw [hpp] at hpa
          simp only [] at hpa
          have HA := Lib.hid hall
          clear hall hpp HF
          generalize printCl l = T at *
          go_wp2_with (first
            | (go_at_call 14; refine Calls.exts (hpr _ he) ?_; intro w2 e2; have m2 := he.trans e2)
            | (go_at_call 8; first
                | (refine (p1 _ (hv.ext m4)).mono ?_; rintro e w5 ⟨ao1, cap1, rfl, e5, hc1⟩)
                | (refine (hpa _ (hv.ext m2)).mono ?_; rintro e w3 ⟨ao3, cap3, rfl, e3, hc3⟩; have m3 := m2.trans e3))
            | (go_at_call 10; refine Calls.exts (sameCalls_any _ _ l _ (HL.out.ext m3) hc3) ?_; intro w4 e4; have m4 := m3.trans e4))
          go_ret
          exact ⟨rfl, m4.trans e5⟩
      subst hes
      obtain ⟨hb1, hb2, hb3⟩ := HBK.out rfl
      have hpr2 := fun wx va (hx : Vars wx) (hc : Cls wx va m) => print_any va m wx hc hb3 (by omega) hx
      rw [hb1] at hpr2
      have hmz : (m.length : Int) ≤ 8 := by omega
      clear HBK hb1 hb3
      cases fb
      · go_wp2_with (first
          | (go_at_call 8; refine (p1 _ (hv.ext he)).mono ?_; rintro e w2 ⟨ao1, cap1, rfl, e2, hc1⟩; have m2 := he.trans e2)
          | (go_at_call 14; refine Calls.exts (hpr2 _ _ (hv.ext m2) hc1) ?_; intro w3 e3))
        go_ret
        exact ⟨rfl, m2.trans e3⟩
      · obtain ⟨hn8, hall⟩ := HF.out rfl
        have hpr := fun wx (hx : Ext w wx) => print_any (.slice ao l.length cap) l wx (HL.out.ext hx) hall (by omega) (hv.ext hx)
        have hpa := fun wx (hx : Vars wx) => parse_at_call (printCl l) (by have := print_len hall; omega) wx hx
        have hpp := parse_print hall
        rw [if_neg (by omega)] at hpp
        rw [hpp] at hpa
        simp only [] at hpa
        have HA := Lib.hid hall
        clear hall hpp HF
        generalize printCl l = T at *
        go_wp2_with (first
          | (go_at_call 14; first
              | (refine Calls.exts (hpr2 _ _ (hv.ext m5) hc1) ?_; intro w6 e6)
              | (refine Calls.exts (hpr _ he) ?_; intro w2 e2; have m2 := he.trans e2))
          | (go_at_call 8; first
              | (refine (p1 _ (hv.ext m4)).mono ?_; rintro e w5 ⟨ao1, cap1, rfl, e5, hc1⟩; have m5 := m4.trans e5)
              | (refine (hpa _ (hv.ext m2)).mono ?_; rintro e w3 ⟨ao3, cap3, rfl, e3, hc3⟩; have m3 := m2.trans e3))
          | (go_at_call 10; refine Calls.exts (sameCalls_any _ _ l _ (HL.out.ext m3) hc3) ?_; intro w4 e4; have m4 := m3.trans e4))
        go_ret
        exact ⟨rfl, m5.trans e6⟩

end Go.Proofs.YtdmipnnfoolelabDoor

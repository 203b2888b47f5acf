/- Walks: words, kinds, places and numbers. -/
import Derived.Test.YtdmipnnfoolelabDoorT0
namespace Go.Proofs.YtdmipnnfoolelabDoor
open Go.RowKit Go.Mk

set_option maxHeartbeats 400000 in
theorem wordOf_any (k : Int) (w : World) : Calls Tryd.prog 26 #[I k] w fun e w' => e = .returned (S (wordOf k)) ∧ w' = w := by
  have hk2 : k = 1 ∨ k = 2 ∨ k = 3 ∨ k = 4 ∨ k = 5 ∨ k = 6 ∨ (k ≠ 1 ∧ k ≠ 2 ∧ k ≠ 3 ∧ k ≠ 4 ∧ k ≠ 5 ∧ k ≠ 6) := by omega
  rcases hk2 with rfl | rfl | rfl | rfl | rfl | rfl | ⟨h1, h2, h3, h4, h5, h6⟩
  all_goals
    go_enter Tryd.func26, Tryd.ntmps26
    go_wp2
    go_ret
    refine ⟨?_, rfl⟩
    simp_all [wordOf]

set_option maxHeartbeats 400000 in
theorem number_ok (s : Bs) (hs : s.length ≤ 1000000000) (v : Int) (h : Lib.atoiAll s = .ok v) (w : World) (hv : Vars w) :
    Calls Tryd.prog 31 #[S s] w fun e w' => e = .returned (.tuple #[I v, .bool (Lib.itoa v == s)]) ∧ Ext w w' := by
  obtain ⟨f1, f2⟩ := atoi_fits h
  go_enter Tryd.func31, Tryd.ntmps31
  go_wp2_with (first
    | (go_at_call 23; refine Calls.exts (atoi_ok s hs v h _) ?_; intro w1 e1)
    | (go_at_call 24; refine Calls.exts (itoa_any v f1 f2 _ (hv.ext e1)) ?_; intro w2 e2))
  go_ret2
  exact ⟨rfl, e1.trans e2⟩

set_option maxHeartbeats 400000 in
theorem number_err (s : Bs) (hs : s.length ≤ 1000000000) (h : ∀ v, Lib.atoiAll s ≠ .ok v) (w : World) (hv : Vars w) :
    Calls Tryd.prog 31 #[S s] w fun e w' => ∃ n, e = .returned (.tuple #[I n, .bool false]) ∧ Ext w w' := by
  go_enter Tryd.func31, Tryd.ntmps31
  go_wp2_with (first
    | (go_at_call 23; refine (atoi_err s hs h _ hv).mono ?_; rintro e w1 ⟨n, tp, p, rfl, e1⟩))
  go_ret2
  exact ⟨n, rfl, e1⟩

theorem number_some (s : Bs) (hs : s.length ≤ 1000000000) (n : Int) (h : numOf s = some n) (w : World) (hv : Vars w) :
    Calls Tryd.prog 31 #[S s] w fun e w' => e = .returned (.tuple #[I n, .bool true]) ∧ Ext w w' := by
  cases ha : Lib.atoiAll s with
  | ok v =>
    rw [numOf_ok ha] at h
    by_cases he : Lib.itoa v = s
    · rw [if_pos he] at h
      injection h with h
      subst h
      have hb : (Lib.itoa v == s) = true := by simpa using he
      have := number_ok s hs v ha w hv
      rw [hb] at this
      exact this
    · rw [if_neg he] at h; cases h
  | _ => rw [numOf_err (fun v hv => by rw [ha] at hv; cases hv)] at h; cases h

theorem number_none (s : Bs) (hs : s.length ≤ 1000000000) (h : numOf s = none) (w : World) (hv : Vars w) :
    Calls Tryd.prog 31 #[S s] w fun e w' => ∃ n, e = .returned (.tuple #[I n, .bool false]) ∧ Ext w w' := by
  by_cases hx : ∃ v, Lib.atoiAll s = .ok v
  · obtain ⟨v, ha⟩ := hx
    rw [numOf_ok ha] at h
    by_cases he : Lib.itoa v = s
    · rw [if_pos he] at h; cases h
    · have hb : (Lib.itoa v == s) = false := by simpa using he
      have := number_ok s hs v ha w hv
      rw [hb] at this
      exact this.mono fun e w' ⟨he, hx⟩ => ⟨v, he, hx⟩
  · exact number_err s hs (fun v hv => hx ⟨v, hv⟩) w hv

theorem kindOf_hit {s : Bs} {k : Nat} (h1 : 1 ≤ k) (h2 : k ≤ 6) (h : wordOf (k : Int) = s) : kindOf s = k := by
  rw [← h]
  exact kind_word (by omega)
theorem kindOf_none {s : Bs} (h : ∀ j : Nat, 1 ≤ j → j < 7 → wordOf (j : Int) ≠ s) : kindOf s = 0 := by
  by_cases hk : kindOf s = 0
  · exact hk
  · obtain ⟨e, h1, h2⟩ := word_kind hk
    have := h (kindOf s).toNat (by omega) (by omega)
    rw [show (((kindOf s).toNat : Nat) : Int) = kindOf s by omega] at this
    exact absurd e this

set_option maxHeartbeats 400000 in
theorem kindOf_any (s : Bs) (w : World) : Calls Tryd.prog 18 #[S s] w fun e w' => e = .returned (I (kindOf s)) ∧ Ext w w' := by
  go_enter Tryd.func18, Tryd.ntmps18
  go_wp2
  go_loopw [3] (fun i wr => ∃ k : Nat, 1 ≤ k ∧ k ≤ 7 ∧ i = I k ∧ (∀ j : Nat, 1 ≤ j → j < k → wordOf (j : Int) ≠ s) ∧ Ext w wr) (fun i _ => 7 - (intOf i).toNat)
  case atStart => exact ⟨1, by omega, by omega, rfl, fun j h1 h2 => by omega, Ext.refl w⟩
  case round =>
    obtain ⟨k, h1, h2, rfl, hf, he⟩ := hrel
    have HF : Hid (∀ j : Nat, 1 ≤ j → j < k → wordOf (j : Int) ≠ s) := hf
    clear hf
    by_cases hlt : k ≤ 6
    · have hz : (k : Int) ≤ 6 := by omega
      generalize hq : wordOf (k : Int) = q
      have HQ : Hid (wordOf (k : Int) = q) := hq
      have hcall : ∀ wx, Calls Tryd.prog 26 #[I k] wx fun e w' => e = .returned (S q) ∧ w' = wx := fun wx => by rw [← hq]; exact wordOf_any _ _
      clear hq
      by_cases hw : q = s
      · have hb : (q == s) = true := by simpa using hw
        have HW : Hid (q = s) := hw
        clear hw
        go_wp2_with (go_at_call 26; refine Calls.same (hcall _) ?_)
        go_ret
        exact ⟨ret_int (kindOf_hit h1 hlt (HQ.out.trans HW.out)).symm, he⟩
      · have hb : (q == s) = false := by simpa using hw
        have HW : Hid (q ≠ s) := hw
        clear hw
        go_wp2_with (go_at_call 26; refine Calls.same (hcall _) ?_)
        go_roundw
        case rel =>
          refine ⟨k + 1, by omega, by omega, by go_num, fun j hj1 hj2 => ?_, he⟩
          by_cases hjk : j < k
          · exact HF.out j hj1 hjk
          · rw [show j = k by omega, HQ.out]; exact HW.out
        case measure => simp [intOf]; omega
    · have hz : ¬ (k : Int) ≤ 6 := by omega
      go_wp2
      go_ret
      exact ⟨ret_int (kindOf_none (fun j hj1 hj2 => HF.out j hj1 (by omega))).symm, he⟩

/-- Where a call of a kind has its numbers. -/
def fieldsOf (k : Int) : List Nat := if k = 1 ∨ k = 4 then [1, 3] else if k = 2 ∨ k = 3 then [1] else if k = 6 then [1, 2] else []

theorem length_fields (k : Int) : (fieldsOf k).length = argc k := by
  unfold fieldsOf argc
  repeat' split
  all_goals first | rfl | (exfalso; omega)

def ptrCells (b : Nat) (fs : List Nat) : List Value := fs.map fun j => .pointer (some ⟨b, j, none⟩)

/-- A slice of places in memory of its own. -/
def PtrsO (base : Nat) (w : World) (v : Value) (b : Nat) (fs : List Nat) : Prop := w.ownsRow base 55 1 v fs.length (ptrCells b fs)

theorem PtrsO.ptrs {base : Nat} {w : World} {v : Value} {b : Nat} {fs : List Nat} (h : PtrsO base w v b fs) : Ptrs w v b fs := Row.of_owns h
theorem PtrsO.ext {base : Nat} {w w' : World} {v : Value} {b : Nat} {fs : List Nat} (h : PtrsO base w v b fs) (he : Ext w w') : PtrsO base w' v b fs := owns_ext h he
theorem PtrsO.grown {base : Nat} {w w' : World} {v : Value} {b : Nat} {fs : List Nat} (h : PtrsO base w v b fs) (hb : b < base) (hg : w.grownBy w' (some b)) : PtrsO base w' v b fs :=
  h.kept hg (.inr fun e => by have := (h.lt b e).1; omega)
theorem monoPtrsO (base b : Nat) (fs : List Nat) : ∀ v, MonoP (fun w => PtrsO base w v b fs) := fun _ _ _ he h => PtrsO.ext h he

theorem ptrs_lit {w : World} (b : Nat) (fs : List Nat) (cs : Array Value) (n : Nat) (hc : cs.toList = ptrCells b fs) (hn : fs.length = n) (hm : n ≤ maxLen) : PtrsO w.heap.size (w.alloc (.cells cs 55)) (.slice (some ⟨w.heap.size, 0, none⟩) n n) b fs := by
  subst hn
  have := World.ownsRow_lit (base := w.heap.size) (e := 55) (size := 1) w cs fs.length (Nat.le_refl _) hm (by rw [← Array.length_toList, hc]; simp [ptrCells])
  rw [hc] at this
  exact this

theorem ptrs_nil (base : Nat) (w : World) (b : Nat) : PtrsO base w (.slice none 0 0) b [] := World.ownsRow_nil w base _ 1

set_option maxHeartbeats 1000000 in
theorem places_any (b : Nat) (k : Int) (w : World) (h0 : w.cell? ⟨b, 0, none⟩ = some (I k)) :
    Calls Tryd.prog 20 #[.pointer (some ⟨b, 0, none⟩)] w fun e w' => ∃ r, e = .returned r ∧ Ext w w' ∧ PtrsO w.heap.size w' r b (fieldsOf k) := by
  have hk2 : k = 1 ∨ k = 2 ∨ k = 3 ∨ k = 4 ∨ k = 6 ∨ (k ≠ 1 ∧ k ≠ 2 ∧ k ≠ 3 ∧ k ≠ 4 ∧ k ≠ 6) := by omega
  rcases hk2 with rfl | rfl | rfl | rfl | rfl | ⟨h1, h2, h3, h4, h6⟩
  · go_enter Tryd.func20, Tryd.ntmps20
    go_wp2
    go_region
    go_wp2
    go_ret
    exact ⟨_, rfl, ((Ext.refl w).alloc _).drewN 1, (ptrs_lit b [1, 3] _ 2 rfl rfl (by decide)).ext (Ext.of_drewN _ 1)⟩
  · go_enter Tryd.func20, Tryd.ntmps20
    go_wp2
    go_ret
    exact ⟨_, rfl, (Ext.refl w).alloc _, ptrs_lit b [1] _ 1 rfl rfl (by decide)⟩
  · go_enter Tryd.func20, Tryd.ntmps20
    go_wp2
    go_ret
    exact ⟨_, rfl, (Ext.refl w).alloc _, ptrs_lit b [1] _ 1 rfl rfl (by decide)⟩
  · go_enter Tryd.func20, Tryd.ntmps20
    go_wp2
    go_region
    go_wp2
    go_ret
    exact ⟨_, rfl, ((Ext.refl w).alloc _).drewN 1, (ptrs_lit b [1, 3] _ 2 rfl rfl (by decide)).ext (Ext.of_drewN _ 1)⟩
  · go_enter Tryd.func20, Tryd.ntmps20
    go_wp2
    go_region
    go_wp2
    go_ret
    exact ⟨_, rfl, ((Ext.refl w).alloc _).drewN 1, (ptrs_lit b [1, 2] _ 2 rfl rfl (by decide)).ext (Ext.of_drewN _ 1)⟩
  · have hf : fieldsOf k = [] := by
      unfold fieldsOf
      rw [if_neg (by omega), if_neg (by omega), if_neg h6]
    have HF : Hid (fieldsOf k = []) := hf
    clear hf
    go_enter Tryd.func20, Tryd.ntmps20
    go_wp2
    go_ret
    exact ⟨_, rfl, Ext.refl w, by rw [HF.out]; exact ptrs_nil _ _ _⟩

end Go.Proofs.YtdmipnnfoolelabDoor

/- Walks: calls are printed. -/
import Derived.Test.YtdmipnnfoolelabDoorT5
namespace Go.Proofs.YtdmipnnfoolelabDoor
open Go.RowKit Go.Mk

theorem builder_ext {T e : TypeId} {B b : Nat} {bs : List Value} {w w' : World} (h : Lib.IsBuilder T e B b bs w) (he : Ext w w') : Lib.IsBuilder T e B b bs w' := by
  rcases h with ⟨h1, v, h2, h3, h4⟩ | ⟨h1, v, h2, h3, h4⟩
  · exact .inl ⟨h1, v, block_of h2 he, owns_ext h3 he, h4⟩
  · exact .inr ⟨h1, v, block_of h2 he, owns_ext h3 he, h4⟩

theorem write_any (B : Nat) (l x : Bs) (w : World) (h : Lib.IsBuilder 60 5 B B (Lib.byteCells l) w) (hl : l.length + x.length ≤ 140737488355328) (hB : B ≤ w.heap.size) :
    Calls Tryd.prog 28 #[.pointer (some ⟨B, 0, none⟩), S x] w fun e w' => e = .returned (.tuple #[I x.length, .nilIface]) ∧ Lib.IsBuilder 60 5 B B (Lib.byteCells (l ++ x)) w' ∧ Below B w w' := by
  have hsz : (⟨x.toArray⟩ : ByteArray).size = x.length := by simp [ByteArray.size]
  have hbl : (Lib.byteCells l).length = l.length := by simp [Lib.byteCells]
  have := Any.Builder_WriteString (P := Tryd.prog) (ρ := Tryd.lays156_ren) { Tryd.lays156 with } Tryd.Builder_Extra_156 B B (Lib.byteCells l) ⟨x.toArray⟩ w h (by rw [hsz, hbl]; exact hl) hB
  refine this.mono fun e w' ⟨he, hb, hx⟩ => ⟨by rw [he, hsz], .inr ?_, hx⟩
  have e1 : Lib.byteCells l ++ Lib.strCells ⟨x.toArray⟩ = Lib.byteCells (l ++ x) := by
    rw [Lib.byteCells_append]
    rfl
  rw [← e1]
  exact hb

theorem string_any (B : Nat) (l : Bs) (w : World) (h : Lib.IsBuilder 60 5 B B (Lib.byteCells l) w) (hB : B ≤ w.heap.size) :
    Calls Tryd.prog 29 #[.pointer (some ⟨B, 0, none⟩)] w fun e w' => e = .returned (S l) ∧ Below B w w' :=
  Any.Builder_String_any (P := Tryd.prog) (ρ := Tryd.lays156_ren) { Tryd.lays156 with } Tryd.Builder_Extra_156 B B l w h hB

theorem print_take {l : List Cl} {k : Nat} (h : k < l.length) : printCl (l.take (k + 1)) = printCl (l.take k) ++ callText (l.getD k zeroCl) ++ [10] := by
  have : Inhabited Cl := ⟨zeroCl⟩
  rw [take_next' l k h zeroCl]
  simp [printCl]
theorem print_len {l : List Cl} (h : ∀ c ∈ l, wrongCl c = 0) : (printCl l).length ≤ 61 * l.length := by
  induction l with
  | nil => simp [printCl]
  | cons c l ih =>
    have h1 := callText_len (h c (by simp))
    have h2 := ih (fun d hd => h d (by simp [hd]))
    simp [printCl] at h2 ⊢
    omega

set_option maxHeartbeats 2000000 in
theorem print_any (v : Value) (l : List Cl) (w : World) (hl : Cls w v l) (hr : ∀ c ∈ l, wrongCl c = 0) (hn : l.length ≤ 1000000) (hv : Vars w) :
    Calls Tryd.prog 14 #[v] w fun e w' => e = .returned (S (printCl l)) ∧ Ext w w' := by
  obtain ⟨ao, cap, rfl, h1, h2, h3⟩ := hl.form
  unfold maxLen at h2
  clear hl
  go_enter Tryd.func14, Tryd.ntmps14
  go_wp2
  go_loopw [8] (fun i wr => ∃ k : Nat, k ≤ l.length ∧ i = I k ∧ Lib.IsBuilder 60 5 w.heap.size w.heap.size (Lib.byteCells (printCl (l.take k))) wr ∧ Ext w wr) (fun i _ => l.length - (intOf i).toNat)
  case atStart => exact ⟨0, by omega, rfl, by simpa [printCl, Lib.byteCells] using Lib.fresh_isBuilder 60 5 w, (Ext.refl w).alloc _⟩
  case round =>
    obtain ⟨k, hk, rfl, hb, he⟩ := hrel
    by_cases hlt : k < l.length
    · obtain ⟨b, off, rfl, c1, c2, c3, c4⟩ := h3 k hlt
      have d1 := he.cell c1
      have d2 := he.cell c2
      have d3 := he.cell c3
      have d4 := he.cell c4
      have hmem : l.getD k zeroCl ∈ l := by simp [hlt]
      have hw := hr _ hmem
      have hcl := callText_len hw
      have hpl : (printCl (l.take k)).length ≤ 61 * l.length := by
        have := print_len (l := l.take k) (fun c hc => hr c (List.mem_of_mem_take hc))
        rw [List.length_take] at this
        omega
      have HT : Hid (printCl (l.take (k + 1)) = printCl (l.take k) ++ callText (l.getD k zeroCl) ++ [10]) := print_take hlt
      have hcall : ∀ wx, Vars wx → Calls Tryd.prog 12 #[A (l.getD k zeroCl)] wx fun e w' => e = .returned (S (callText (l.getD k zeroCl))) ∧ Ext wx w' := fun wx hx => call_any _ hw wx hx
      have hvr := hv.ext he
      clear c1 c2 c3 c4 h3 hmem hw
      generalize printCl (l.take k) = P at *
      generalize callText (l.getD k zeroCl) = T at *
      generalize l.getD k zeroCl = c at *
      obtain ⟨ck, ca, co, cn⟩ := c
      simp only [] at d1 d2 d3 d4 hcall
      have hw1 : ∀ wx, Ext wr wx → Calls Tryd.prog 28 #[.pointer (some ⟨w.heap.size, 0, none⟩), S T] wx fun e w' => e = .returned (.tuple #[I T.length, .nilIface]) ∧ Lib.IsBuilder 60 5 w.heap.size w.heap.size (Lib.byteCells (P ++ T)) w' ∧ Below w.heap.size wx w' := fun wx hx =>
        write_any _ P T wx (builder_ext hb hx) (by omega) (by have := he.size; have := hx.size; omega)
      have hw2 : ∀ wx, Ext w wx → Lib.IsBuilder 60 5 w.heap.size w.heap.size (Lib.byteCells (P ++ T)) wx → Calls Tryd.prog 28 #[.pointer (some ⟨w.heap.size, 0, none⟩), S [10]] wx fun e w' => e = .returned (.tuple #[I 1, .nilIface]) ∧ Lib.IsBuilder 60 5 w.heap.size w.heap.size (Lib.byteCells (P ++ T ++ [10])) w' ∧ Below w.heap.size wx w' := fun wx hx hbx =>
        write_any _ (P ++ T) [10] wx hbx (by simp; omega) hx.size
      go_wp2_with (first
        | (go_at_call 12; refine Calls.exts (hcall _ (hvr.ext ((Ext.refl _).alloc _))) ?_; intro w2 e2)
        | (go_at_call 28; first
            | (refine (hw2 _ m3 hb3).mono ?_; rintro e w4 ⟨rfl, hb4, x4⟩)
            | (refine (hw1 _ (((Ext.refl wr).alloc _).trans e2)).mono ?_; rintro e w3 ⟨rfl, hb3, x3⟩; have m3 : Ext w w3 := Below.trans ((he.alloc _).trans e2) x3)))
      go_roundw
      case rel => exact ⟨k + 1, by omega, by go_num, by rw [HT.out]; exact hb4, Below.trans m3 x4⟩
      case measure => simp [intOf]; omega
    · have hkl : k = l.length := by omega
      have hs : Calls Tryd.prog 29 #[.pointer (some ⟨w.heap.size, 0, none⟩)] wr fun e w' => e = .returned (S (printCl l)) ∧ Below w.heap.size wr w' := by
        rw [hkl, List.take_of_length_le (Nat.le_refl _)] at hb
        exact string_any _ _ wr hb he.size
      clear hkl hb h3 hr
      go_wp2_with (go_at_call 29; refine hs.mono ?_; rintro e w2 ⟨rfl, x2⟩)
      go_ret
      exact ⟨rfl, Below.trans he x2⟩

end Go.Proofs.YtdmipnnfoolelabDoor

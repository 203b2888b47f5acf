/- Walks: the document's words, texts and prints. -/
import Derived.Test.YtdmipnnfoolelabDoorT8
namespace Go.Proofs.YtdmipnnfoolelabDoor
open Go.RowKit Go.Mk

theorem S_add (a b : Bs) : (⟨a.toArray⟩ ++ ⟨b.toArray⟩ : ByteArray) = ⟨(a ++ b).toArray⟩ := by
  apply ByteArray.ext
  simp

def wordsArr : Array Value := #[.string ⟨#[]⟩, .string ⟨#[112, 117, 116]⟩, .string ⟨#[103, 101, 116]⟩, .string ⟨#[100, 114, 111, 112]⟩, .string ⟨#[97, 100, 100]⟩, .string ⟨#[99, 111, 117, 110, 116]⟩, .string ⟨#[115, 119, 97, 112]⟩]
def countsArr : Array Value := #[I 0, I 2, I 1, I 1, I 2, I 0, I 2]

set_option maxHeartbeats 400000 in
theorem words_any (w : World) : Calls Tryd.prog 22 #[] w fun e w' => e = .returned (.tuple #[.slice (some ⟨w.heap.size, 0, none⟩) 7 7, .slice (some ⟨w.heap.size + 1, 0, none⟩) 7 7]) ∧ w' = (w.alloc (.cells wordsArr 9)).alloc (.cells countsArr 3) := by
  go_enter Tryd.func22, Tryd.ntmps22
  go_wp2
  go_ret2
  exact ⟨rfl, rfl⟩

/-- What lies in memory behind Words, and stays. -/
theorem text_cells {w w1 wx : World} {o0 : Obj} {v0 v1 v2 v3 : Value} (k : Nat) {wd ct : Value} (ho : o0 = .cells #[v0, v1, v2, v3] 23 (0, 0)) (hw : w1 = ((w.alloc o0).alloc (.cells wordsArr 9)).alloc (.cells countsArr 3)) (hx : Ext w1 wx) (h1 : wordsArr[k]? = some wd) (h2 : countsArr[k]? = some ct) :
    wx.cell? ⟨w.heap.size, 0, none⟩ = some v0 ∧ wx.cell? ⟨w.heap.size, 1, none⟩ = some v1 ∧ wx.cell? ⟨w.heap.size, 2, none⟩ = some v2 ∧ wx.cell? ⟨w.heap.size, 3, none⟩ = some v3 ∧ wx.cell? ⟨w.heap.size + 1, k, none⟩ = some wd ∧ wx.cell? ⟨w.heap.size + 1 + 1, k, none⟩ = some ct := by
  subst ho hw
  have b0 := first_block ((Ext.refl _).alloc (.cells countsArr 3) |>.trans hx)
  have b1 := second_block ((Ext.refl _).alloc (.cells countsArr 3) |>.trans hx)
  have b2 : wx.heap[w.heap.size + 1 + 1]? = some (.cells countsArr 3 (0, 0)) := by
    refine block_of ?_ hx
    have := heap_alloc_new ((w.alloc (.cells #[v0, v1, v2, v3] 23 (0, 0))).alloc (.cells wordsArr 9)) (.cells countsArr 3)
    simpa using this
  obtain ⟨x0, x1, x2, x3, -⟩ := box4 b0
  exact ⟨x0, x1, x2, x3, cell_block b1 h1, cell_block b2 h2⟩

set_option maxHeartbeats 4000000 in
theorem refCallText_any (c : Cl) (hc : wrongCl c = 0) (w : World) (hv : Vars w) : Calls Tryd.prog 13 #[A c] w fun e w' => e = .returned (S (callText c)) ∧ Ext w w' := by
  obtain ⟨hk, h1, h2, h3, h4, h5, h6⟩ := wrongCl_parts hc
  clear hc
  obtain ⟨k, a, o, n⟩ := c
  simp only at hk h1 h2 h3 h4 h5 h6
  have : k = 1 ∨ k = 2 ∨ k = 3 ∨ k = 4 ∨ k = 5 ∨ k = 6 := by omega
  have ia : ∀ wx, Vars wx → Calls Tryd.prog 24 #[I a] wx fun e w' => e = .returned (S (Lib.itoa a)) ∧ Ext wx w' := fun wx hx => itoa_any a (by omega) (by omega) wx hx
  have io : ∀ wx, Vars wx → Calls Tryd.prog 24 #[I o] wx fun e w' => e = .returned (S (Lib.itoa o)) ∧ Ext wx w' := fun wx hx => itoa_any o (by omega) (by omega) wx hx
  have i_n : ∀ wx, Vars wx → Calls Tryd.prog 24 #[I n] wx fun e w' => e = .returned (S (Lib.itoa n)) ∧ Ext wx w' := fun wx hx => itoa_any n (by omega) (by omega) wx hx
  have la := itoa_len (n := a) (by omega) (by omega)
  have lo := itoa_len (n := o) (by omega) (by omega)
  have ln := itoa_len (n := n) (by omega) (by omega)
  clear h1 h2 h3 h4 h5 h6 hk
  rcases this with rfl | rfl | rfl | rfl | rfl | rfl
  · have F := fun (w1 wx : World) (hw : w1 = ((w.alloc (.cells #[I 1, I a, I o, I n] 23)).alloc (.cells wordsArr 9)).alloc (.cells countsArr 3)) (hx : Ext w1 wx) => text_cells 1 (wd := .string ⟨#[112, 117, 116]⟩) (ct := I 2) rfl hw hx rfl rfl
    go_enter Tryd.func13, Tryd.ntmps13
    go_wp2_with (first
      | (go_at_call 22; refine (words_any _).mono ?_; rintro e w1 ⟨rfl, hw⟩; have F1 := fun wx hx => F w1 wx hw hx; have m1 : Ext w w1 := by rw [hw]; exact (((Ext.refl w).alloc _).alloc _).alloc _
         clear hw F; obtain ⟨x0, x1, x2, x3, xw, xn⟩ := F1 w1 (Ext.refl _))
      | (go_at_call 24; first
          | (have q2 := m2; clear q2; refine Calls.exts (i_n _ (hv.ext m2)) ?_; intro w3 e3; obtain ⟨z0, z1, z2, z3, zw, zn⟩ := F1 w3 (e2.trans e3))
          | (refine Calls.exts (ia _ (hv.ext m1)) ?_; intro w2 e2; obtain ⟨y0, y1, y2, y3, yw, yn⟩ := F1 w2 e2; have m2 := m1.trans e2)))
    go_ret
    refine ⟨?_, m2.trans e3⟩
    simp [callText, callWs, argsOf, argc, wordOf, joinB, S_add]
  · have F := fun (w1 wx : World) (hw : w1 = ((w.alloc (.cells #[I 2, I a, I o, I n] 23)).alloc (.cells wordsArr 9)).alloc (.cells countsArr 3)) (hx : Ext w1 wx) => text_cells 2 (wd := .string ⟨#[103, 101, 116]⟩) (ct := I 1) rfl hw hx rfl rfl
    go_enter Tryd.func13, Tryd.ntmps13
    go_wp2_with (first
      | (go_at_call 22; refine (words_any _).mono ?_; rintro e w1 ⟨rfl, hw⟩; have F1 := fun wx hx => F w1 wx hw hx; have m1 : Ext w w1 := by rw [hw]; exact (((Ext.refl w).alloc _).alloc _).alloc _
         clear hw F; obtain ⟨x0, x1, x2, x3, xw, xn⟩ := F1 w1 (Ext.refl _))
      | (go_at_call 24; refine Calls.exts (ia _ (hv.ext m1)) ?_; intro w2 e2; obtain ⟨y0, y1, y2, y3, yw, yn⟩ := F1 w2 e2; have m2 := m1.trans e2))
    go_ret
    refine ⟨?_, m2⟩
    simp [callText, callWs, argsOf, argc, wordOf, joinB, S_add]
  · have F := fun (w1 wx : World) (hw : w1 = ((w.alloc (.cells #[I 3, I a, I o, I n] 23)).alloc (.cells wordsArr 9)).alloc (.cells countsArr 3)) (hx : Ext w1 wx) => text_cells 3 (wd := .string ⟨#[100, 114, 111, 112]⟩) (ct := I 1) rfl hw hx rfl rfl
    go_enter Tryd.func13, Tryd.ntmps13
    go_wp2_with (first
      | (go_at_call 22; refine (words_any _).mono ?_; rintro e w1 ⟨rfl, hw⟩; have F1 := fun wx hx => F w1 wx hw hx; have m1 : Ext w w1 := by rw [hw]; exact (((Ext.refl w).alloc _).alloc _).alloc _
         clear hw F; obtain ⟨x0, x1, x2, x3, xw, xn⟩ := F1 w1 (Ext.refl _))
      | (go_at_call 24; refine Calls.exts (ia _ (hv.ext m1)) ?_; intro w2 e2; obtain ⟨y0, y1, y2, y3, yw, yn⟩ := F1 w2 e2; have m2 := m1.trans e2))
    go_ret
    refine ⟨?_, m2⟩
    simp [callText, callWs, argsOf, argc, wordOf, joinB, S_add]
  · have F := fun (w1 wx : World) (hw : w1 = ((w.alloc (.cells #[I 4, I a, I o, I n] 23)).alloc (.cells wordsArr 9)).alloc (.cells countsArr 3)) (hx : Ext w1 wx) => text_cells 4 (wd := .string ⟨#[97, 100, 100]⟩) (ct := I 2) rfl hw hx rfl rfl
    go_enter Tryd.func13, Tryd.ntmps13
    go_wp2_with (first
      | (go_at_call 22; refine (words_any _).mono ?_; rintro e w1 ⟨rfl, hw⟩; have F1 := fun wx hx => F w1 wx hw hx; have m1 : Ext w w1 := by rw [hw]; exact (((Ext.refl w).alloc _).alloc _).alloc _
         clear hw F; obtain ⟨x0, x1, x2, x3, xw, xn⟩ := F1 w1 (Ext.refl _))
      | (go_at_call 24; first
          | (have q2 := m2; clear q2; refine Calls.exts (i_n _ (hv.ext m2)) ?_; intro w3 e3; obtain ⟨z0, z1, z2, z3, zw, zn⟩ := F1 w3 (e2.trans e3))
          | (refine Calls.exts (ia _ (hv.ext m1)) ?_; intro w2 e2; obtain ⟨y0, y1, y2, y3, yw, yn⟩ := F1 w2 e2; have m2 := m1.trans e2)))
    go_ret
    refine ⟨?_, m2.trans e3⟩
    simp [callText, callWs, argsOf, argc, wordOf, joinB, S_add]
  · have F := fun (w1 wx : World) (hw : w1 = ((w.alloc (.cells #[I 5, I a, I o, I n] 23)).alloc (.cells wordsArr 9)).alloc (.cells countsArr 3)) (hx : Ext w1 wx) => text_cells 5 (wd := .string ⟨#[99, 111, 117, 110, 116]⟩) (ct := I 0) rfl hw hx rfl rfl
    go_enter Tryd.func13, Tryd.ntmps13
    go_wp2_with (first
      | (go_at_call 22; refine (words_any _).mono ?_; rintro e w1 ⟨rfl, hw⟩; have F1 := fun wx hx => F w1 wx hw hx; have m1 : Ext w w1 := by rw [hw]; exact (((Ext.refl w).alloc _).alloc _).alloc _
         clear hw F; obtain ⟨x0, x1, x2, x3, xw, xn⟩ := F1 w1 (Ext.refl _)))
    go_ret
    refine ⟨?_, m1⟩
    simp [callText, callWs, argsOf, argc, wordOf, joinB]
  · have F := fun (w1 wx : World) (hw : w1 = ((w.alloc (.cells #[I 6, I a, I o, I n] 23)).alloc (.cells wordsArr 9)).alloc (.cells countsArr 3)) (hx : Ext w1 wx) => text_cells 6 (wd := .string ⟨#[115, 119, 97, 112]⟩) (ct := I 2) rfl hw hx rfl rfl
    go_enter Tryd.func13, Tryd.ntmps13
    go_wp2_with (first
      | (go_at_call 22; refine (words_any _).mono ?_; rintro e w1 ⟨rfl, hw⟩; have F1 := fun wx hx => F w1 wx hw hx; have m1 : Ext w w1 := by rw [hw]; exact (((Ext.refl w).alloc _).alloc _).alloc _
         clear hw F; obtain ⟨x0, x1, x2, x3, xw, xn⟩ := F1 w1 (Ext.refl _))
      | (go_at_call 24; first
          | (have q2 := m2; clear q2; refine Calls.exts (io _ (hv.ext m2)) ?_; intro w3 e3; obtain ⟨z0, z1, z2, z3, zw, zn⟩ := F1 w3 (e2.trans e3))
          | (refine Calls.exts (ia _ (hv.ext m1)) ?_; intro w2 e2; obtain ⟨y0, y1, y2, y3, yw, yn⟩ := F1 w2 e2; have m2 := m1.trans e2)))
    go_ret
    refine ⟨?_, m2.trans e3⟩
    simp [callText, callWs, argsOf, argc, wordOf, joinB, S_add]

set_option maxHeartbeats 2000000 in
theorem refPrint_any (v : Value) (l : List Cl) (w : World) (hl : Cls w v l) (hr : ∀ c ∈ l, wrongCl c = 0) (hn : l.length ≤ 1000000) (hv : Vars w) :
    Calls Tryd.prog 15 #[v] w fun e w' => e = .returned (S (printCl l)) ∧ Ext w w' := by
  obtain ⟨ao, cap, rfl, h1, h2, h3⟩ := hl.form
  unfold maxLen at h2
  clear hl
  go_enter Tryd.func15, Tryd.ntmps15
  go_wp2
  go_loopw [3, 7] (fun q i wr => ∃ k : Nat, k ≤ l.length ∧ i = I k ∧ q = S (printCl (l.take k)) ∧ Ext w wr) (fun _ i _ => l.length - (intOf i).toNat)
  case atStart => exact ⟨0, by omega, rfl, rfl, Ext.refl w⟩
  case round =>
    obtain ⟨k, hk, rfl, rfl, he⟩ := hrel
    by_cases hlt : k < l.length
    · obtain ⟨b, off, rfl, c1, c2, c3, c4⟩ := h3 k hlt
      have d1 := he.cell c1
      have d2 := he.cell c2
      have d3 := he.cell c3
      have d4 := he.cell c4
      have hmem : l.getD k zeroCl ∈ l := by simp [hlt]
      have hw := hr _ hmem
      have hcl := callText_len hw
      have hpl : (printCl (l.take k)).length ≤ 61 * l.length := by
        have := print_len (l := l.take k) (fun c hc => hr c (List.mem_of_mem_take hc))
        rw [List.length_take] at this
        omega
      have HT : Hid (printCl (l.take (k + 1)) = printCl (l.take k) ++ callText (l.getD k zeroCl) ++ [10]) := print_take hlt
      have hcall : ∀ wx, Vars wx → Calls Tryd.prog 13 #[A (l.getD k zeroCl)] wx fun e w' => e = .returned (S (callText (l.getD k zeroCl))) ∧ Ext wx w' := fun wx hx => refCallText_any _ hw wx hx
      have hvr := hv.ext he
      clear c1 c2 c3 c4 h3 hmem hw hr
      generalize printCl (l.take k) = P at *
      generalize callText (l.getD k zeroCl) = T at *
      generalize l.getD k zeroCl = c at *
      obtain ⟨ck, ca, co, cn⟩ := c
      simp only [] at d1 d2 d3 d4 hcall
      go_wp2_with (go_at_call 13; refine Calls.exts (hcall _ hvr) ?_; intro w2 e2)
      go_roundw
      case rel => exact ⟨k + 1, by omega, by go_num, by rw [HT.out]; show Value.string ((⟨P.toArray⟩ ++ ⟨T.toArray⟩) ++ ⟨([10] : Bs).toArray⟩) = _; rw [S_add P T, S_add (P ++ T) [10]], he.trans e2⟩
      case measure => simp [intOf]; omega
    · have hkl : k = l.length := by omega
      subst hkl
      rw [List.take_of_length_le (Nat.le_refl _)]
      clear h3 hr
      go_wp2
      go_ret
      exact ⟨rfl, he⟩

end Go.Proofs.YtdmipnnfoolelabDoor

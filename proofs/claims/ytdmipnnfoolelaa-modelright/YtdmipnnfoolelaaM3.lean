/- Walks: names: a copy of one's own, and whether they are right. -/
import Derived.Test.YtdmipnnfoolelaaM2
namespace Go.Proofs.Ytdmipnnfoolelaa
open Go.RowKit Go.Mk

set_option maxHeartbeats 400000 in
theorem mown_any (v : Value) (l : List (Int × Int)) (w : World) (hv : Writes w v l) (hr : l.length * 16 ≤ 140737488355328) :
    Calls Try.prog 42 #[v] w fun e w' => e = .returned (.slice (some ⟨w.heap.size, 0, none⟩) l.length l.length) ∧ w'.ownsRow w.heap.size 34 2 (.slice (some ⟨w.heap.size, 0, none⟩) l.length l.length) l.length (cells2 l) ∧ Ext w w' := by
  obtain ⟨i0, hi, hz0, hz1, hz2⟩ := info_parts Try.infoWrite2
  obtain ⟨hlen, ao, cap, rfl, h1, h2, h0, h3⟩ := hv
  unfold maxLen at h2
  go_enter Try.func42, Try.ntmps42
  go_wp2_with (at_make; refine wpList_make_full _ rfl _ _ 23 rfl w.heap.size 34 i0 (.agg #[.int .i64 0, .int .i64 0]) 2 Try.underlying23 hi hz0 hz1 .i64 .i64 _ _ l.length rfl rfl rfl rfl (by rw [hz2]; omega) (by unfold maxLen; omega) (Nat.le_refl _) ?_; intro w1 hown hgrow)
  have he1 : Ext w w1 := (Ext.refl w).grown hgrow (fun k hk => by cases hk)
  obtain ⟨w2, hrun, hown2, hgrow2⟩ := run_copy_all2 (P := Try.prog) w1 23 3 34 Try.underlying23 Try.infoWriteSz w.heap.size w.heap.size l.length _ (cells2 l) _ hown (Row.ext ⟨hlen, ao, cap, rfl, h1, h2, h0, h3⟩ he1) (cells2_one l)
  have he2 : Ext w w2 := he1.grown hgrow2 (fun k hk => by cases hk; exact Nat.le_refl _)
  rw [hrun]
  clear hrun hown hgrow hgrow2 he1 h3
  go_wp2
  go_ret
  exact ⟨rfl, hown2, he2⟩

/-- It tells whether names are right. -/
def OknB (l : List (Int × Int)) (e : Ending) : Prop := ∃ b, e = .returned (.bool b) ∧ (b = true ↔ Okn l)

theorem oknB_true {l : List (Int × Int)} (h : Okn l) : OknB l (.returned (.bool true)) := ⟨true, rfl, by simp [h]⟩

theorem oknB_false {l : List (Int × Int)} (h : ¬ Okn l) : OknB l (.returned (.bool false)) := ⟨false, rfl, by simp [h]⟩

set_option maxHeartbeats 1000000 in
theorem right_any (v : Value) (l : List (Int × Int)) (w : World) (hv : Writes w v l) :
    Calls Try.prog 23 #[v] w fun e w' => OknB l e ∧ Ext w w' := by
  obtain ⟨ao, cap, rfl, h1, h2, h3⟩ := hv.form
  unfold maxLen at h2
  clear hv
  by_cases hl : 5 < l.length
  · have hl' : (5 : Int) < (l.length : Int) := by omega
    go_enter Try.func23, Try.ntmps23
    go_wp2
    go_ret
    exact ⟨oknB_false (fun h => by have := h.len; omega), Ext.refl w⟩
  have hl5 : (l.length : Int) ≤ 5 := by omega
  have HL : Hid (l.length ≤ 5) := Nat.le_of_not_lt hl
  clear hl
  go_enter Try.func23, Try.ntmps23
  go_wp2
  go_loopw [12, 3, 4, 39, 6] (fun i _ _ _ _ wr => ∃ k : Nat, k ≤ l.length ∧ i = I k ∧ (∀ j, j < k → 1 ≤ (l.getD j (0, 0)).1 ∧ (l.getD j (0, 0)).1 ≤ 255 ∧ -1073741824 ≤ (l.getD j (0, 0)).2 ∧ (l.getD j (0, 0)).2 ≤ 1073741824) ∧ (∀ i j, i < j → j < k → (l.getD i (0, 0)).1 ≠ (l.getD j (0, 0)).1) ∧ Ext w wr) (fun i _ _ _ _ _ => l.length - (intOf i).toNat)
  case atStart => exact ⟨0, by omega, rfl, fun j hj => by omega, fun i j _ hj => by omega, Ext.refl w⟩
  case round =>
    obtain ⟨k, hk, rfl, hb, hu, he⟩ := hrel
    have HB : Hid (∀ j, j < k → 1 ≤ (l.getD j (0, 0)).1 ∧ (l.getD j (0, 0)).1 ≤ 255 ∧ -1073741824 ≤ (l.getD j (0, 0)).2 ∧ (l.getD j (0, 0)).2 ≤ 1073741824) := hb
    have HU : Hid (∀ i j, i < j → j < k → (l.getD i (0, 0)).1 ≠ (l.getD j (0, 0)).1) := hu
    clear hb hu
    by_cases hlt : k < l.length
    · obtain ⟨b, off, rfl, hc1, hc2⟩ := h3 k hlt
      have H3 : Hid (∀ j, j < l.length → w.cell? ⟨b, off + j * 2, none⟩ = some (I (l.getD j (0, 0)).1) ∧ w.cell? ⟨b, off + j * 2 + 1, none⟩ = some (I (l.getD j (0, 0)).2)) := fun j hj => by
        obtain ⟨b', off', e', q1, q2⟩ := h3 j hj
        simp only [Option.some.injEq, Addr.mk.injEq, and_true] at e'
        obtain ⟨rfl, rfl⟩ := e'
        exact ⟨q1, q2⟩
      clear h3
      have hd1 := he.cell hc1
      have hd2 := he.cell hc2
      clear hc1 hc2
      have HO : Hid (Okn l → 1 ≤ (l.getD k (0, 0)).1 ∧ (l.getD k (0, 0)).1 ≤ 255 ∧ -1073741824 ≤ (l.getD k (0, 0)).2 ∧ (l.getD k (0, 0)).2 ≤ 1073741824) := fun h => h.at hlt
      generalize hp : l.getD k (0, 0) = p at hd1 hd2 HO
      have HP : Hid (l.getD k (0, 0) = p) := hp
      clear hp
      obtain ⟨at_, n⟩ := p
      simp only [] at hd1 hd2
      by_cases ha : at_ < 1
      · go_wp2
        go_ret
        exact ⟨oknB_false (fun h => by have := HO.out h; omega), he.alloc _⟩
      by_cases ha2 : 255 < at_
      · go_wp2
        go_ret
        exact ⟨oknB_false (fun h => by have := HO.out h; omega), he.alloc _⟩
      by_cases hn : n < -1073741824
      · go_wp2
        go_ret
        exact ⟨oknB_false (fun h => by have := HO.out h; omega), he.alloc _⟩
      by_cases hn2 : 1073741824 < n
      · go_wp2
        go_ret
        exact ⟨oknB_false (fun h => by have := HO.out h; omega), he.alloc _⟩
      have hkc : (k : Int) ≤ (cap : Int) := by omega
      rename World => w1
      have he1 : Ext w (w1.alloc (Obj.cells #[I at_, I n] 34)) := he.alloc _
      have q1 : (w1.alloc (Obj.cells #[I at_, I n] 34)).cell? ⟨w1.heap.size, 0, none⟩ = some (I at_) := by simp
      have HQ : Hid ((w1.alloc (Obj.cells #[I at_, I n] 34)).cell? ⟨w1.heap.size, 0, none⟩ = some (I at_)) := q1
      clear q1
      go_wp2
      go_loopw [39] (fun i wr' => ∃ m : Nat, m ≤ k ∧ i = I m ∧ (∀ j, j < m → (l.getD j (0, 0)).1 ≠ at_) ∧ Ext (w1.alloc (Obj.cells #[I at_, I n] 34)) wr') (fun i _ => k - (intOf i).toNat)
      case atStart => exact ⟨0, by omega, rfl, fun j hj => by omega, Ext.refl _⟩
      case round =>
        obtain ⟨m, hm, rfl, hf, he2⟩ := hrel
        have HF : Hid (∀ j, j < m → (l.getD j (0, 0)).1 ≠ at_) := hf
        clear hf
        by_cases hmk : m < k
        · obtain ⟨t1, t2⟩ := H3.out m (by omega)
          have g1 := (he1.trans he2).cell t1
          have g2 := (he1.trans he2).cell t2
          have g3 := he2.cell HQ.out
          have g4 := fun o => ((Ext.refl wr).alloc o).cell g3
          clear t1 t2
          generalize hp : l.getD m (0, 0) = p at g1 g2
          have HP' : Hid (l.getD m (0, 0) = p) := hp
          clear hp
          obtain ⟨at2, n2⟩ := p
          simp only [] at g1 g2
          by_cases hq : at2 = at_
          · have hb : (at2 == at_) = true := by simp [hq]
            have HE : Hid (at2 = at_) := hq
            clear hq
            go_wp2
            go_ret
            refine ⟨oknB_false (fun h => ?_), (he1.trans he2).alloc _⟩
            have := h.uni (i := m) (j := k) (by omega) hlt (by rw [HP.out, HP'.out]; exact HE.out)
            omega
          · have hb : (at2 == at_) = false := by simpa using hq
            have HE : Hid (at2 ≠ at_) := hq
            clear hq
            go_wp2
            go_roundw
            case rel =>
              refine ⟨m + 1, by omega, by go_num, fun j hj => ?_, he2.alloc _⟩
              by_cases hjm : j < m
              · exact HF.out j hjm
              · rw [show j = m by omega, HP'.out]; exact HE.out
            case measure => simp [intOf]; omega
        · go_wp2
          go_roundw
          case rel =>
            refine ⟨k + 1, by omega, by go_num, fun j hj => ?_, fun i j hij hj => ?_, he1.trans he2⟩
            · by_cases hjk : j < k
              · exact HB.out j hjk
              · rw [show j = k by omega, HP.out]; simp only []; omega
            · by_cases hjk : j < k
              · exact HU.out i j hij hjk
              · rw [show j = k by omega, HP.out]; exact HF.out i (by omega)
          case measure => simp [intOf]; omega
    · go_wp2
      go_ret
      exact ⟨oknB_true (okn_of HL.out (fun j hj => HB.out j (by omega)) (fun i j hij hj => HU.out i j hij (by omega))), he⟩

end Go.Proofs.Ytdmipnnfoolelaa

/- Walks over what the document says: the names that cells have. -/
import Derived.Test.YtdmipnnfoolelaaD3
namespace Go.Proofs.Ytdmipnnfoolelaa
open Go.RowKit Go.Mk

theorem right_cells {xs : List Int} (h : wrongOf xs = 0) : xs.length = 11 ∧ 0 ≤ xs.getD 0 0 ∧ xs.getD 0 0 ≤ 5 := by
  have hl := right_len h
  unfold wrongOf at h
  rw [if_neg (by simp [hl])] at h
  by_cases h0 : 0 ≤ xs.getD 0 0 ∧ xs.getD 0 0 ≤ 5
  · exact ⟨hl, h0⟩
  · rw [if_pos h0] at h; cases h

set_option maxHeartbeats 1000000 in
theorem refOfW_has (v : Value) (xs : List Int) (w : World) (hv : Ints w v xs) (hw : xs.length = 11 ∧ 0 ≤ xs.getD 0 0 ∧ xs.getD 0 0 ≤ 5) :
    Calls Try.prog 27 #[v] w fun e w' => ∃ r, e = .returned r ∧ Ext w w' ∧ Has w.heap.size w' r (ofCells xs (xs.getD 0 0).toNat) := by
  obtain ⟨hl, x0, x5⟩ := id hw
  obtain ⟨i0, hi, hz0, hz1, hz2⟩ := info_parts Try.infoWrite2
  have H3 : Hid (∀ k, k < 11 → ∃ ao cap, v = .slice ao 11 cap ∧ 11 ≤ cap ∧ cap ≤ maxLen ∧ ∃ b off, ao = some ⟨b, off, none⟩ ∧ w.cell? ⟨b, off + k, none⟩ = some (I (xs.getD k 0))) := fun k hk => by
    obtain ⟨ao, cap, h1, h2, h3, h4⟩ := hv.form
    rw [hl] at h1 h2 h4
    exact ⟨ao, cap, h1, h2, h3, h4 k hk⟩
  obtain ⟨ao, cap, rfl, hcap, hm, b, off, rfl, hc0⟩ := H3.out 0 (by omega)
  have HC : Hid (∀ k, k < 11 → w.cell? ⟨b, off + k, none⟩ = some (I (xs.getD k 0))) := fun k hk => by
    obtain ⟨ao, cap', h1, _, _, b', off', h2, h3⟩ := H3.out k hk
    rw [h2] at h1
    simp only [Value.slice.injEq, Option.some.injEq, Addr.mk.injEq, and_true] at h1
    obtain ⟨⟨rfl, rfl⟩, _, rfl⟩ := h1
    exact h3
  clear H3
  unfold maxLen at hm
  simp only [Nat.add_zero] at hc0
  generalize hX : xs.getD 0 0 = x at *
  clear hX hw hl hv
  have HC0 : Hid (w.cell? ⟨b, off, none⟩ = some (I x)) := hc0
  clear hc0
  go_enter Try.func27, Try.ntmps27
  go_wp2_with fail
  go_loopw [3, 4] (fun o i wr => ∃ k : Nat, (k : Int) ≤ x ∧ i = I (1 + 2 * k) ∧ wr.ownsRow w.heap.size 34 2 o k (cells2 (ofCells xs k)) ∧ Ext w wr) (fun _ i _ => 20 - (intOf i).toNat)
  case atStart => exact ⟨0, by omega, rfl, World.ownsRow_nil _ _ _ _, Ext.refl w⟩
  case round =>
    obtain ⟨k, hk, rfl, ho, he⟩ := hrel
    have c0 := he.cell HC0.out
    by_cases hlt : (k : Int) < x
    · have c1 := he.cell (HC.out (1 + 2 * k) (by omega))
      have c2 := he.cell (HC.out (1 + 2 * k + 1) (by omega))
      have HS : Hid (ofCells xs (k + 1) = ofCells xs k ++ [(xs.getD (1 + 2 * k) 0, xs.getD (1 + 2 * k + 1) 0)]) := ofCells_succ xs k
      generalize xs.getD (1 + 2 * k) 0 = p at *
      generalize xs.getD (1 + 2 * k + 1) 0 = q at *
      have a1 : (0 : Int) ≤ 1 + 2 * (k : Int) := by omega
      have a2 : 1 + 2 * (k : Int) < 11 := by omega
      have a3 : (1 + 2 * (k : Int)).toNat = 1 + 2 * k := by omega
      have a4 : (0 : Int) ≤ 1 + 2 * (k : Int) + 1 := by omega
      have a5 : 1 + 2 * (k : Int) + 1 < 11 := by omega
      have a6 : (1 + 2 * (k : Int) + 1).toNat = 1 + 2 * k + 1 := by omega
      have hwr : IntKind.i64.wrap (1 + 2 * (k : Int) + 1) = 1 + 2 * (k : Int) + 1 := by rw [IntKind.wrap_i64]; omega
      go_wp2_with fail
      refine wp_region_mono_tail 12 [none, none, none, none, none, none, none, none, none, none, none, some (.inr fun v w => Writes w v [(p, q)])] (by kernel_rfl) (by kernel_rfl) ?_ ?_
      · exact ⟨trivial, trivial, trivial, trivial, trivial, trivial, trivial, trivial, trivial, trivial, trivial, monoWrites _, trivial⟩
      iterate 4 (refine wpM_p (fun K hK => ?_); go_simp; refine hK _ ?_; clear hK K)
      refine wpM_q (I p) rfl (fun w' hw' => by have := hw'.cell c1; go_simp) ?_
      iterate 4 (refine wpM_p (fun K hK => ?_); go_simp; refine hK _ ?_; clear hK K)
      refine wpM_q (I q) rfl (fun w' hw' => by have := hw'.cell c2; go_simp) ?_
      iterate 1 (refine wpM_p (fun K hK => ?_); go_simp; refine hK _ ?_; clear hK K)
      refine wpM_l _ rfl (fun w' hw' _ => ?_) (fun v25 => ?_)
      · unfold makes
        go_simp
        exact ⟨(Ext.refl _).alloc _, writes_lit _ _ _ 1 rfl rfl (by decide)⟩
      refine wpM_nil ?_
      intro w2 he2 hF
      have h25 : Writes w2 v25 [(p, q)] := hF 25
      clear hF c1 c2 c0
      refine wpList_append_row _ rfl (.tmp 14) (.tmp 25) 23 rfl w.heap.size 34 i0 _ 2 16 Try.underlying23 hi hz0 hz1 hz2 rfl (by decide) u3 k (cells2 (ofCells xs k)) rfl ?_ v25 rfl 1 _ h25 (cells2_one _) (by omega) (by decide) ?_ ?_
      · exact owns_ext ho he2
      · exact Nat.le_trans he.size he2.size
      intro o' w3 ho3 hg3
      have he4 : Ext w w3 := (he.trans he2).grown hg3 (fun j hj => (ho.lt j hj).1)
      clear hg3 he2 h25
      go_wp2
      go_roundw
      case rel =>
        refine ⟨k + 1, by omega, by go_num, ?_, he4⟩
        rw [HS.out, cells2_append]
        exact ho3
      case measure => simp [intOf]; omega
    · go_wp2
      go_ret
      refine ⟨_, rfl, he, ?_⟩
      rw [show x.toNat = k by omega]
      exact ⟨_, _, _, ho, fun _ h => writes_of_owns h⟩

theorem refOfW_any (v : Value) (xs : List Int) (w : World) (hv : Ints w v xs) (hw : xs.length = 11 ∧ 0 ≤ xs.getD 0 0 ∧ xs.getD 0 0 ≤ 5) :
    Calls Try.prog 27 #[v] w fun e w' => ∃ r, e = .returned r ∧ Ext w w' ∧ Writes w' r (ofCells xs (xs.getD 0 0).toNat) :=
  (refOfW_has v xs w hv hw).mono fun _ _ ⟨r, h1, h2, h3⟩ => ⟨r, h1, h2, h3.writes⟩
theorem refOf_has (v : Value) (xs : List Int) (w : World) (hv : Ints w v xs) (hw : wrongOf xs = 0) :
    Calls Try.prog 27 #[v] w fun e w' => ∃ r, e = .returned r ∧ Ext w w' ∧ Has w.heap.size w' r (ofCells xs (xs.getD 0 0).toNat) := refOfW_has v xs w hv (right_cells hw)
theorem refOf_any (v : Value) (xs : List Int) (w : World) (hv : Ints w v xs) (hw : wrongOf xs = 0) :
    Calls Try.prog 27 #[v] w fun e w' => ∃ r, e = .returned r ∧ Ext w w' ∧ Writes w' r (ofCells xs (xs.getD 0 0).toNat) := refOfW_any v xs w hv (right_cells hw)

end Go.Proofs.Ytdmipnnfoolelaa

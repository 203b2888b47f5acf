/- Walks: texts are cut at a line feed, and at blanks. -/
import Derived.Test.YtdmipnnfoolelabDoorT2
namespace Go.Proofs.YtdmipnnfoolelabDoor
open Go.RowKit Go.Mk

theorem index_any (s : Bs) (c : UInt8) (w : World) : Calls Tryd.prog 50 #[S s, S [c]] w fun e w' => e = .returned (I (Lib.indexByte s c)) ∧ w' = w :=
  (Any.stringslite_Index_one { Tryd.lays145 with } ⟨s.toArray⟩ c w).mono fun e w' ⟨he, hw⟩ => ⟨by simpa using he, hw⟩

theorem S_take (l r : Bs) : (⟨(l ++ r).toArray⟩ : ByteArray).extract 0 l.length = ⟨l.toArray⟩ := by
  rw [Lib.extract_eq]
  simp
theorem S_drop (l r : Bs) (c : UInt8) : (⟨(l ++ c :: r).toArray⟩ : ByteArray).extract (l.length + 1) (l.length + (r.length + 1)) = ⟨r.toArray⟩ := by
  rw [Lib.extract_eq]
  have e : (l ++ c :: r).drop (l.length + 1) = r := by
    rw [← List.drop_drop]
    simp
  simp only [e]
  rw [List.take_of_length_le (by omega)]

set_option maxHeartbeats 400000 in
theorem lcut_none (s : Bs) (c : UInt8) (h : c ∉ s) (w : World) : Calls Tryd.prog 38 #[S s, S [c]] w fun e w' => e = .returned (.tuple #[S s, S [], .bool false]) ∧ Ext w w' := by
  have hi := fun wx => index_any s c wx
  rw [indexByte_none h] at hi
  clear h
  go_enter Tryd.func38, Tryd.ntmps38
  go_wp2_with (go_at_call 50; refine Calls.same (hi _) ?_)
  go_ret3
  exact ⟨rfl, Ext.refl w⟩

set_option maxHeartbeats 400000 in
theorem lcut_hit (l r : Bs) (c : UInt8) (h : c ∉ l) (hb : l.length + (r.length + 1) ≤ 1000000000) (w : World) : Calls Tryd.prog 38 #[S (l ++ c :: r), S [c]] w fun e w' => e = .returned (.tuple #[S l, S r, .bool true]) ∧ Ext w w' := by
  have hi := fun wx => index_any (l ++ c :: r) c wx
  rw [indexByte_first h] at hi
  clear h
  go_enter Tryd.func38, Tryd.ntmps38
  go_wp2_with (go_at_call 50; refine Calls.same (hi _) ?_)
  go_region
  go_wp2
  go_ret3
  rw [S_take, S_drop]
  exact ⟨rfl, (Ext.refl w).drewN 1⟩

set_option maxHeartbeats 400000 in
theorem cut_none (s : Bs) (h : (10 : UInt8) ∉ s) (w : World) : Calls Tryd.prog 25 #[S s, S [10]] w fun e w' => e = .returned (.tuple #[S s, S [], .bool false]) ∧ Ext w w' := by
  have hc := fun wx => lcut_none s 10 h wx
  clear h
  go_enter Tryd.func25, Tryd.ntmps25
  go_wp2_with (go_at_call 38; refine Calls.exts (hc _) ?_; intro w1 e1)
  go_ret3
  exact ⟨rfl, e1⟩

set_option maxHeartbeats 400000 in
theorem cut_hit (l r : Bs) (h : (10 : UInt8) ∉ l) (hb : l.length + (r.length + 1) ≤ 1000000000) (w : World) : Calls Tryd.prog 25 #[S (l ++ 10 :: r), S [10]] w fun e w' => e = .returned (.tuple #[S l, S r, .bool true]) ∧ Ext w w' := by
  have hc := fun wx => lcut_hit l r 10 h hb wx
  clear h
  go_enter Tryd.func25, Tryd.ntmps25
  go_wp2_with (go_at_call 38; refine Calls.exts (hc _) ?_; intro w1 e1)
  go_ret3
  exact ⟨rfl, e1⟩

theorem countOne (s : Bs) (w : World) : Calls Tryd.prog 42 #[S s, S [32]] w fun e w' => e = .returned (.int .i64 (Lib.countB ⟨s.toArray⟩ ⟨#[32]⟩)) ∧ w' = w :=
  (Any.strings_Count_one (L := { Tryd.lays147 with }) ⟨s.toArray⟩ 32 w).mono fun e w' ⟨he, hw⟩ => ⟨by
    rw [he]
    show _ = Ending.returned (Value.int .i64 ((Lib.count _ [32] : Nat) : Int))
    rw [Lib.count_one]
    rfl, hw⟩

/-- The pieces of a text, and their place. -/
def piecesB (s : Bs) : List ByteArray := Lib.splitB ⟨#[32]⟩ 0 (min 4 (s.length + 1) - 1) ⟨s.toArray⟩
def pieces (s : Bs) : List Bs := Lib.splitK [32] 0 (min 4 (s.length + 1) - 1) s

theorem pieces_data (s : Bs) : (piecesB s).map Value.string = (pieces s).map S := by
  have h := Lib.splitB_data ⟨#[32]⟩ 0 (min 4 (s.length + 1) - 1) ⟨s.toArray⟩
  have e : pieces s = (piecesB s).map (·.data.toList) := by
    unfold pieces piecesB
    rw [h]
  rw [e, List.map_map]
  apply List.map_congr_left
  intro x _
  simp [S]

theorem genSplit_any (s : Bs) (hs : s.length ≤ 1000000000) (w : World) : Calls Tryd.prog 30 #[S s, S [32], I 0, I 4] w fun e w' =>
    e = .returned (.slice (some ⟨w.heap.size, 0, none⟩) (piecesB s).length (min 4 (s.length + 1))) ∧ w' = w.alloc (.cells (Lib.cellsOf (piecesB s) (min 4 (s.length + 1))) 9) := by
  have hsz : (⟨s.toArray⟩ : ByteArray).size = s.length := by simp [ByteArray.size]
  have := Any.strings_genSplit_core (P := Tryd.prog) (ρ := Tryd.lays147_ren) { Tryd.lays147 with } (by kernel_rfl) ⟨s.toArray⟩ ⟨#[32]⟩ 0 4 (min 4 (s.length + 1)) w (by rw [hsz]; omega) (by decide) (by decide)
    (fun x c _ => (Any.strings_Index_one (P := Tryd.prog) (ρ := Tryd.lays147_ren) { Tryd.lays147 with } x 32 _).mono fun e w' ⟨he, hw⟩ => ⟨by rw [he]; exact ret_int (indexOne _ _).symm, hw⟩)
    (countOne s w) (by decide) (by decide) (by rw [hsz, if_neg (by decide)]; omega)
  exact this

theorem pieces_length (s : Bs) : (piecesB s).length = (pieces s).length := by
  have := congrArg List.length (pieces_data s)
  simpa using this
theorem pieces_le (s : Bs) : (pieces s).length ≤ min 4 (s.length + 1) := by
  rw [← pieces_length]
  have := Lib.splitB_length_le ⟨#[32]⟩ 0 (min 4 (s.length + 1) - 1) ⟨s.toArray⟩
  unfold piecesB
  omega
theorem pieces_form (s : Bs) : ∃ x r, pieces s = x :: r := by
  cases h : pieces s with
  | cons x r => exact ⟨x, r, rfl⟩
  | nil =>
    unfold pieces at h
    cases hk : min 4 (s.length + 1) - 1 with
    | zero => rw [hk] at h; cases h
    | succ k =>
      rw [hk, Lib.splitK] at h
      split at h <;> cases h
theorem pieces_short : ∀ (k : Nat) (s : Bs), ∀ x ∈ Lib.splitK [32] 0 k s, x.length ≤ s.length := by
  intro k
  induction k with
  | zero => intro s x hx; simp [Lib.splitK] at hx; rw [hx]; exact Nat.le_refl _
  | succ k ih =>
    intro s x hx
    rw [Lib.splitK] at hx
    split at hx
    · simp at hx; rw [hx]; exact Nat.le_refl _
    · rw [List.mem_cons] at hx
      rcases hx with rfl | hx
      · simp; omega
      · have := ih _ x hx
        simp at this
        omega

/-- A row of texts that lies in a block, from a place on. -/
theorem strs_block {wx : World} {g off cap : Nat} {cs : Array Value} {t : TypeId} {ws : List Bs} (h : wx.heap[g]? = some (.cells cs t (0, 0))) (hc : ∀ (j : Nat) u, (ws.map S)[j]? = some u → cs[off + j]? = some u) (hn : ws.length ≤ cap) (hm : cap ≤ maxLen) :
    Strs wx (.slice (some ⟨g, off, none⟩) ws.length cap) ws :=
  ⟨by simp, _, _, rfl, hn, hm, (fun e => by cases e), fun j u hj => ⟨g, off, rfl, cell_block h (hc j u hj)⟩⟩

set_option maxHeartbeats 400000 in
theorem splitN_any (s : Bs) (hs : s.length ≤ 1000000000) (w : World) : Calls Tryd.prog 17 #[S s, S [32], I 4] w fun e w' =>
    ∃ cs : Array Value, e = .returned (.slice (some ⟨w.heap.size, 0, none⟩) (pieces s).length (min 4 (s.length + 1))) ∧ w' = w.alloc (.cells cs 9) ∧ ∀ (j : Nat) u, ((pieces s).map S)[j]? = some u → cs[j]? = some u := by
  have hg := genSplit_any s hs w
  go_enter Tryd.func17, Tryd.ntmps17
  go_wp2_with (go_at_call 30; refine hg.mono ?_; rintro e w' ⟨rfl, hw⟩; rw [hw])
  go_ret
  refine ⟨_, by rw [pieces_length]; rfl, rfl, fun j u hj => ?_⟩
  rw [← pieces_data] at hj
  unfold Lib.cellsOf
  rw [List.getElem?_toArray, List.getElem?_append_left (List.getElem?_eq_some_iff.1 hj).1]
  exact hj

end Go.Proofs.YtdmipnnfoolelabDoor

/- Walks: what the document says of names: getting, setting. -/
import Derived.Test.YtdmipnnfoolelabBase
namespace Go.Proofs.Ytdmipnnfoolelab
open Go.RowKit Go.Mk

/-- All with that name have the number; if there is none, it is put last. -/
def setR (l : List (Int × Int)) (name n : Int) : List (Int × Int) := l.map fun p => if p.1 = name then (p.1, n) else p

theorem setR_snoc (l : List (Int × Int)) (p : Int × Int) (name n : Int) : setR (l ++ [p]) name n = setR l name n ++ [if p.1 = name then (p.1, n) else p] := by simp [setR]

theorem length_setR (l : List (Int × Int)) (name n : Int) : (setR l name n).length = l.length := by simp [setR]

theorem setR_put1 {l : List (Int × Int)} (h : Okn l) {name : Int} (ha : at1 l name < l.length) (n : Int) : setR l name n = put1 l (at1 l name) n := by
  refine ext_getD (by rw [length_setR, length_put1]) fun j hj => ?_
  rw [length_setR] at hj
  rw [getD_put1 _ _ _ _ ha]
  have e : (setR l name n).getD j (0, 0) = if (l.getD j (0, 0)).1 = name then ((l.getD j (0, 0)).1, n) else l.getD j (0, 0) := by
    simp [setR, List.getD_eq_getElem?_getD, hj]
  rw [e]
  by_cases hn : (l.getD j (0, 0)).1 = name
  · have : at1 l name = j := h.uni ha hj (by rw [at1_hit ha, hn])
    rw [if_pos hn, if_pos this]
  · have : at1 l name ≠ j := fun e => hn (by rw [← e]; exact at1_hit ha)
    rw [if_neg hn, if_neg this]

theorem setR_none {l : List (Int × Int)} {name : Int} (ha : ¬ at1 l name < l.length) (n : Int) : setR l name n = l := by
  have e : at1 l name = l.length := by have := at1_le l name; omega
  refine ext_getD (length_setR _ _ _) fun j hj => ?_
  rw [length_setR] at hj
  have hn : (l.getD j (0, 0)).1 ≠ name := at1_before (by omega)
  simp [setR, List.getD_eq_getElem?_getD, hj] at hn ⊢
  intro h
  exact absurd h hn

/-- What a name has; 0, if it is not there. -/
def getR (l : List (Int × Int)) (name : Int) : Int := if at1 l name < l.length then num l (at1 l name) else 0

def isR (l : List (Int × Int)) (name : Int) : Bool := decide (at1 l name < l.length)

/-- It is among the first k. -/
def seenR (l : List (Int × Int)) (name : Int) (k : Nat) : Bool := decide (at1 l name < k)

theorem getR_hit {l : List (Int × Int)} {name : Int} (h : at1 l name < l.length) : getR l name = num l (at1 l name) := if_pos h

theorem isR_hit {l : List (Int × Int)} {name : Int} (h : at1 l name < l.length) : isR l name = true := decide_eq_true h

theorem getR_none {l : List (Int × Int)} {name : Int} (h : ¬ at1 l name < l.length) : getR l name = 0 := if_neg h

theorem isR_none {l : List (Int × Int)} {name : Int} (h : ¬ at1 l name < l.length) : isR l name = false := decide_eq_false h

set_option maxHeartbeats 400000 in
theorem rget_any (v : Value) (l : List (Int × Int)) (name : Int) (w : World) (hv : Writes w v l) :
    Calls Try.prog 21 #[v, I name] w fun e w' => e = .returned (.tuple #[I (getR l name), .bool (isR l name)]) ∧ Ext w w' := by
  obtain ⟨ao, cap, rfl, h1, h2, h3⟩ := hv.form
  unfold maxLen at h2
  clear hv
  go_enter Try.func21, Try.ntmps21
  go_wp2
  go_loopw [10] (fun i wr => ∃ k : Nat, k ≤ l.length ∧ i = I k ∧ (∀ j, j < k → (l.getD j (0, 0)).1 ≠ name) ∧ Ext w wr) (fun i _ => l.length - (intOf i).toNat)
  case atStart => exact ⟨0, by omega, rfl, fun j hj => by omega, Ext.refl w⟩
  case round =>
    obtain ⟨k, hk, rfl, hf, he⟩ := hrel
    have HF : Hid (∀ j, j < k → (l.getD j (0, 0)).1 ≠ name) := hf
    clear hf
    by_cases hlt : k < l.length
    · obtain ⟨b, off, rfl, hc1, hc2⟩ := h3 k hlt
      clear h3
      have hd1 := he.cell hc1
      have hd2 := he.cell hc2
      clear hc1 hc2
      generalize hp : l.getD k (0, 0) = p at hd1 hd2
      have HP : Hid (l.getD k (0, 0) = p) := hp
      clear hp
      obtain ⟨at_, n⟩ := p
      simp only [] at hd1 hd2
      by_cases hn : at_ = name
      · have hb : (at_ == name) = true := by simp [hn]
        have HN : Hid (at_ = name) := hn
        clear hn
        go_wp2
        go_ret2
        have := at1_of hlt (by rw [HP.out]; exact HN.out) HF.out
        refine ⟨?_, he.alloc _⟩
        have hnum : num l k = n := by unfold num; rw [HP.out]
        rw [getR_hit (by omega), isR_hit (by omega), this, hnum]
        rfl
      · have hb : (at_ == name) = false := by simpa using hn
        have HN : Hid (at_ ≠ name) := hn
        clear hn
        go_wp2
        go_roundw
        case rel =>
          refine ⟨k + 1, by omega, by go_num, fun j hj => ?_, he.alloc _⟩
          by_cases hjk : j < k
          · exact HF.out j hjk
          · rw [show j = k by omega, HP.out]; exact HN.out
        case measure => simp [intOf]; omega
    · go_wp2
      go_ret2
      have := at1_none (l := l) (name := name) (fun j hj => HF.out j (by omega))
      refine ⟨?_, he⟩
      rw [getR_none (by omega), isR_none (by omega)]
      rfl

/-- .. put last, where it is not there. -/
def setX (l : List (Int × Int)) (name n : Int) : List (Int × Int) := setR l name n ++ if at1 l name < l.length then [] else [(name, n)]

theorem setX_hit {l : List (Int × Int)} {name n : Int} (h : at1 l name < l.length) : setX l name n = setR l name n := by unfold setX; rw [if_pos h, List.append_nil]

theorem setX_none {l : List (Int × Int)} {name n : Int} (h : ¬ at1 l name < l.length) : setX l name n = setR l name n ++ [(name, n)] := by unfold setX; rw [if_neg h]

set_option maxHeartbeats 1000000 in
theorem rset_any (v : Value) (l : List (Int × Int)) (name n : Int) (w : World) (hv : Writes w v l) (hr : (l.length + 1) * 16 ≤ 140737488355328) :
    Calls Try.prog 23 #[v, I name, I n] w fun e w' => ∃ r, e = .returned r ∧ Ext w w' ∧ Has w.heap.size w' r (setX l name n) := by
  obtain ⟨i0, hi, hz0, hz1, hz2⟩ := info_parts Try.infoWrite2
  obtain ⟨ao, cap, rfl, h1, h2, h3⟩ := hv.form
  unfold maxLen at h2
  clear hv
  go_enter Try.func23, Try.ntmps23
  go_wp2
  go_loopw [7, 8, 13] (fun o d i wr => ∃ k : Nat, k ≤ l.length ∧ i = I k ∧ d = .bool (seenR l name k) ∧ wr.ownsRow w.heap.size 43 2 o k (cells2 (setR (l.take k) name n)) ∧ Ext w wr) (fun _ _ i _ => l.length - (intOf i).toNat)
  case atStart => exact ⟨0, by omega, rfl, by simp [seenR], World.ownsRow_nil _ _ _ _, Ext.refl w⟩
  case round =>
    obtain ⟨k, hk, rfl, rfl, ho, he⟩ := hrel
    by_cases hlt : k < l.length
    · obtain ⟨b, off, rfl, hc1, hc2⟩ := h3 k hlt
      clear h3
      have hd1 := he.cell hc1
      have hd2 := he.cell hc2
      clear hc1 hc2
      have HB : Hid ((l.getD k (0, 0)).1 = name → at1 l name ≤ k) := fun h => Nat.le_of_not_lt fun hlt => at1_before hlt h
      have HB2 : Hid ((l.getD k (0, 0)).1 ≠ name → at1 l name ≠ k) := fun h e => h (by rw [← e]; exact at1_hit (by omega))
      have HT : Hid (setR (l.take (k + 1)) name n = setR (l.take k) name n ++ [if (l.getD k (0, 0)).1 = name then ((l.getD k (0, 0)).1, n) else l.getD k (0, 0)]) := by
        unfold Hid
        rw [List.take_add_one, List.getElem?_eq_getElem hlt, List.getD_eq_getElem?_getD, List.getElem?_eq_getElem hlt]
        exact setR_snoc _ _ _ _
      generalize l.getD k (0, 0) = p at *
      obtain ⟨at_, m⟩ := p
      simp only [] at hd1 hd2 HB HB2 HT
      by_cases hn : at_ = name
      · have hb : (at_ == name) = true := by simp [hn]
        have HN : Hid (at_ = name) := hn
        clear hn
        go_wp2_with (at_builtin; refine stop_at ?_)
        unfold Hid
        refine wpList_append_row _ rfl (.tmp 23) (.tmp 25) 28 rfl w.heap.size 43 i0 (.agg #[.int .i64 0, .int .i64 0]) 2 16 Try.underlying28 hi hz0 hz1 hz2 rfl (by decide) u7 k (cells2 (setR (l.take k) name n)) rfl ((ho.alloc _).alloc _) _ rfl 1 [I at_, I n] (writes_lit1 _ _ [(at_, n)] _ 1 rfl rfl (by decide)) (cells2_one [(at_, n)]) (by omega) (by decide) (by have := he.size; simp; omega) ?_
        intro o' w3 ho3 hg3
        have he3 : Ext w w3 := ((he.alloc _).alloc _).grown hg3 (fun j hj => (ho.lt j hj).1)
        clear hg3
        go_wp2
        go_roundw
        case rel =>
          refine ⟨k + 1, by omega, by go_num, ?_, ?_, he3⟩
          · have := HB.out HN.out
            simp [seenR]; omega
          · rw [HT.out, if_pos HN.out, cells2_append]; exact ho3
        case measure => simp [intOf]; omega
      · have hb : (at_ == name) = false := by simpa using hn
        have HN : Hid (at_ ≠ name) := hn
        clear hn
        go_wp2_with (at_builtin; refine stop_at ?_)
        unfold Hid
        refine wpList_append_row _ rfl (.tmp 23) (.tmp 25) 28 rfl w.heap.size 43 i0 (.agg #[.int .i64 0, .int .i64 0]) 2 16 Try.underlying28 hi hz0 hz1 hz2 rfl (by decide) u7 k (cells2 (setR (l.take k) name n)) rfl ((ho.alloc _).alloc _) _ rfl 1 [I at_, I m] (writes_lit1 _ _ [(at_, m)] _ 1 rfl rfl (by decide)) (cells2_one [(at_, m)]) (by omega) (by decide) (by have := he.size; simp; omega) ?_
        intro o' w3 ho3 hg3
        have he3 : Ext w w3 := ((he.alloc _).alloc _).grown hg3 (fun j hj => (ho.lt j hj).1)
        clear hg3
        go_wp2
        go_roundw
        case rel =>
          refine ⟨k + 1, by omega, by go_num, ?_, ?_, he3⟩
          · have := HB2.out HN.out
            simp [seenR]; omega
          · rw [HT.out, if_neg HN.out, cells2_append]; exact ho3
        case measure => simp [intOf]; omega
    · have hkl : k = l.length := by omega
      subst hkl
      rw [List.take_of_length_le (Nat.le_refl _)] at ho
      by_cases ha : at1 l name < l.length
      · have hse : seenR l name l.length = true := by simp [seenR, ha]
        go_wp2
        go_ret
        refine ⟨_, rfl, he, ?_⟩
        rw [setX_hit ha]
        exact ⟨_, _, _, ho, fun w2 h2 => writes_of_owns h2⟩
      · have hse : seenR l name l.length = false := by simp [seenR]; omega
        go_wp2_with (at_builtin; refine stop_at ?_)
        unfold Hid
        refine wpList_append_row _ rfl (.tmp 30) (.tmp 34) 28 rfl w.heap.size 43 i0 (.agg #[.int .i64 0, .int .i64 0]) 2 16 Try.underlying28 hi hz0 hz1 hz2 rfl (by decide) u7 l.length (cells2 (setR l name n)) rfl (ho.alloc _) _ rfl 1 [I name, I n] (writes_lit (l := [(name, n)]) _ _ 1 rfl rfl (by decide)) (cells2_one [(name, n)]) (by omega) (by decide) (by have := he.size; simp; omega) ?_
        intro o' w3 ho3 hg3
        have he3 : Ext w w3 := (he.alloc _).grown hg3 (fun j hj => (ho.lt j hj).1)
        clear hg3
        go_wp2
        go_ret
        refine ⟨_, rfl, he3, ?_⟩
        rw [setX_none ha]
        rw [show cells2 (setR l name n) ++ [I name, I n] = cells2 (setR l name n ++ [(name, n)]) from (cells2_append _ [(name, n)]).symm] at ho3
        exact ⟨_, _, _, ho3, fun w2 h2 => writes_of_owns h2⟩

end Go.Proofs.Ytdmipnnfoolelab

/- Walks: how the document reads a call. -/
import Derived.Test.YtdmipnnfoolelabDoorD6
import Derived.Test.YtdmipnnfoolelabDoorM1b
namespace Go.Proofs.YtdmipnnfoolelabDoor
open Go.RowKit Go.Mk

/-- Words ahead of the place k, of which the last begins at a. -/
def Splits (s : Bs) (k a : Nat) (pre : List Bs) : Prop := k ≤ s.length ∧ a ≤ k ∧ splitB 32 s = pre ++ splitB 32 (s.drop a) ∧ (32 : UInt8) ∉ (s.drop a).take (k - a)

theorem splits_zero (s : Bs) : Splits s 0 0 [] := ⟨Nat.zero_le _, Nat.le_refl _, by simp, by simp⟩
theorem splits_next {s : Bs} {k a : Nat} {pre : List Bs} (h : Splits s k a pre) (hk : k < s.length) (hb : s[k]? ≠ some 32) : Splits s (k + 1) a pre :=
  ⟨by omega, by have := h.2.1; omega, h.2.2.1, take_next h.2.1 hb h.2.2.2⟩
theorem splits_cut {s : Bs} {k a : Nat} {pre : List Bs} (h : Splits s k a pre) (hk : k < s.length) (hb : s[k]? = some 32) : Splits s (k + 1) (k + 1) (pre ++ [(s.drop a).take (k - a)]) :=
  ⟨by omega, Nat.le_refl _, split_at h.2.2.1 h.2.1 hb h.2.2.2, by simp⟩
theorem splits_end {s : Bs} {a : Nat} {pre : List Bs} (h : Splits s s.length a pre) : splitB 32 s = pre ++ [(s.drop a).take (s.length - a)] := by
  have e : (s.drop a).take (s.length - a) = s.drop a := List.take_of_length_le (by simp)
  rw [e]
  refine split_end h.2.2.1 ?_
  have := h.2.2.2
  rwa [e] at this
theorem S_slice (s : Bs) (a k : Nat) : (⟨s.toArray⟩ : ByteArray).extract a k = ⟨((s.drop a).take (k - a)).toArray⟩ := by
  rw [Lib.extract_eq]

theorem B_slice (bs : ByteArray) (a k : Nat) : bs.extract a k = ⟨((bs.data.toList.drop a).take (k - a)).toArray⟩ := by
  rw [Lib.extract_eq]
theorem B_get (bs : ByteArray) (k : Nat) (h : k < bs.size) : bs.data.toList[k]? = some (bs[k]'h) := by
  have h' : k < bs.data.toList.length := by rw [← Lib.size_eq]; exact h
  rw [List.getElem?_eq_getElem h']
  rfl
theorem u8_eq (c : UInt8) (n : Nat) (hn : n < 256) : ((c.toNat : Int) == (n : Int)) = decide (c = UInt8.ofNat n) := by
  by_cases h : c = UInt8.ofNat n
  · subst h
    simp
    omega
  · simp only [h, decide_false, beq_eq_false_iff_ne, ne_eq]
    intro e
    apply h
    have : c.toNat = n := by omega
    rw [← this]
    simp

/-- The kind that has been found among the first k words. -/
def kUp (x : Bs) (k : Nat) : Int := if 1 ≤ kindOf x ∧ kindOf x < k then kindOf x else 0
theorem kindOf_le (x : Bs) : 0 ≤ kindOf x ∧ kindOf x ≤ 6 := by
  by_cases h : kindOf x = 0
  · omega
  · have := (word_kind h).2; omega
theorem kUp_zero (x : Bs) : kUp x 0 = 0 := by
  unfold kUp
  rw [if_neg]
  omega
theorem kUp_hit {x : Bs} {k : Nat} (h1 : 1 ≤ k) (h2 : k ≤ 6) (h : wordOf (k : Int) = x) : kUp x (k + 1) = k := by
  have := kindOf_hit h1 h2 h
  unfold kUp
  rw [this, if_pos (by omega)]
theorem kUp_miss {x : Bs} {k : Nat} (h : k = 0 ∨ wordOf (k : Int) ≠ x) : kUp x (k + 1) = kUp x k := by
  have hne : kindOf x ≠ k ∨ kindOf x = 0 := by
    by_cases h0 : kindOf x = 0
    · exact .inr h0
    · left
      intro e
      rcases h with h | h
      · subst h; exact h0 e
      · have := (word_kind h0).1
        rw [e] at this
        exact h this
  unfold kUp
  by_cases hc : 1 ≤ kindOf x ∧ kindOf x < (k : Int)
  · rw [if_pos hc, if_pos (by omega)]
  · rw [if_neg hc, if_neg (by omega)]
theorem kUp_end (x : Bs) : kUp x 7 = kindOf x := by
  have := kindOf_le x
  unfold kUp
  by_cases h : 1 ≤ kindOf x
  · rw [if_pos (by omega)]
  · rw [if_neg (by omega)]; omega
theorem words_at (k : Nat) (h : k < 7) : wordsArr[k]? = some (S (wordOf (k : Int))) := by
  match k, h with
  | 0, _ => rfl
  | 1, _ => rfl
  | 2, _ => rfl
  | 3, _ => rfl
  | 4, _ => rfl
  | 5, _ => rfl
  | 6, _ => rfl
theorem counts_at (k : Nat) (h : k < 7) : countsArr[k]? = some (I (argc (k : Int) : Nat)) := by
  match k, h with
  | 0, _ => rfl
  | 1, _ => rfl
  | 2, _ => rfl
  | 3, _ => rfl
  | 4, _ => rfl
  | 5, _ => rfl
  | 6, _ => rfl
/-- The form of a row that is not empty. -/
theorem strs_own {w : World} {base : Nat} {v : Value} {x : Bs} {r : List Bs} (h : w.ownsRow base 9 1 v (x :: r).length ((x :: r).map S)) :
    ∃ g cap cur, v = .slice (some ⟨g, 0, none⟩) (r.length + 1) cap ∧ base ≤ g ∧ w.heap[g]? = some (.cells cur 9 (0, 0)) ∧ r.length + 1 ≤ cap ∧ cap ≤ maxLen ∧ cur[0]? = some (S x) ∧ ∀ (j : Nat) u, (r.map S)[j]? = some u → cur[1 + j]? = some u := by
  obtain ⟨_, h2⟩ := h
  rcases h2 with ⟨_, h0⟩ | ⟨g, cap, cur, rfl, hb, hg, hn, hm, _, ht⟩
  · simp at h0
  · have hat : ∀ (j : Nat) u, ((x :: r).map S)[j]? = some u → cur[j]? = some u := fun j u hj => by
      have hj' := (List.getElem?_eq_some_iff.1 hj).1
      rw [← ht, List.getElem?_take] at hj
      split at hj
      · simpa using hj
      · cases hj
    exact ⟨g, cap, cur, rfl, hb, hg, by simpa using hn, hm, hat 0 _ rfl, fun j u hj => hat (1 + j) u (by rw [Nat.add_comm]; exact hj)⟩

theorem split_short (c : UInt8) : ∀ (s : Bs), ∀ x ∈ splitB c s, x.length ≤ s.length
  | [], x, h => by simp [splitB] at h; rw [h]; simp
  | b :: s, x, h => by
    have ih := split_short c s
    obtain ⟨v, vs, e⟩ := splitB_form c s
    unfold splitB at h
    rw [e] at h ih
    split at h
    · rw [List.mem_cons] at h
      rcases h with rfl | h
      · simp
      · have := ih x h; simp; omega
    · simp only [List.headD_cons, List.tail_cons, List.mem_cons] at h
      rcases h with rfl | h
      · have := ih v (by simp); simp; omega
      · have := ih x (by simp [h]); simp; omega
theorem numOf_some {y : Bs} {v : Int} (h : numOf y = some v) : Lib.atoiAll y = .ok v ∧ Lib.itoa v = y := by
  refine ⟨?_, itoa_numOf h⟩
  unfold numOf at h
  split at h
  · rename_i n e
    split at h
    · simp at h; rw [← h]; exact e
    · cases h
  · cases h
/-- What is read behind a kind's word. -/
def readN (k : Int) (r : List Bs) : Cl × Int :=
  if r.length ≠ argc k then (zeroCl, 2)
  else match numsOf r with
    | none => (zeroCl, 2)
    | some ns => if wrongCl (mkCl k ns) ≠ 0 then (zeroCl, wrongCl (mkCl k ns)) else (mkCl k ns, 0)
theorem readN_of {x : Bs} {r : List Bs} (h : kindOf x ≠ 0) : readW2 x r = readN (kindOf x) r := by
  unfold readW2 readN
  rw [if_neg h]
  cases numsOf r <;> rfl
theorem readN_len {k : Int} {r : List Bs} (h : r.length ≠ argc k) : readN k r = (zeroCl, 2) := by unfold readN; rw [if_pos h]
theorem readN_none {k : Int} {r : List Bs} (h : numsOf r = none) : readN k r = (zeroCl, 2) := by
  unfold readN
  rw [h]
  split <;> rfl
theorem readN_some {k : Int} {r : List Bs} {ns : List Int} (hl : r.length = argc k) (h : numsOf r = some ns) : readN k r = if wrongCl (mkCl k ns) ≠ 0 then (zeroCl, wrongCl (mkCl k ns)) else (mkCl k ns, 0) := by
  unfold readN
  rw [h, if_neg (by simpa using hl)]
theorem mk_nil (k : Int) : mkCl k [] = ⟨k, 0, 0, 0⟩ := by simp [mkCl]
theorem mk_one (k a : Int) : mkCl k [a] = ⟨k, a, 0, 0⟩ := by simp [mkCl]
theorem mk_two (k a b : Int) : mkCl k [a, b] = ⟨k, a, if k = 6 then b else 0, if k = 6 then 0 else b⟩ := by simp [mkCl]
theorem mk_kind (k : Int) (ns : List Int) : (mkCl k ns).kind = k := rfl

set_option maxHeartbeats 8000000 in
theorem refReadCall_b (bs : ByteArray) (hs : bs.size ≤ 10000000) (w : World) (hv : Vars w) : Calls Tryd.prog 7 #[.string bs] w fun e w' => e = .returned (.tuple #[A (readCl bs.data.toList).1, I (readCl bs.data.toList).2]) ∧ Ext w w' := by
  have hsl : bs.data.toList.length = bs.size := (Lib.size_eq bs).symm
  have hget := fun k h => B_get bs k h
  have hsli := fun a k => B_slice bs a k
  have HSLI := Lib.hid hsli
  have HGET := Lib.hid hget
  have HSL := Lib.hid hsl
  clear hsli hget hsl
  generalize bs.data.toList = s at *
  go_enter Tryd.func7, Tryd.ntmps7
  go_wp2
  go_loopw [4, 5, 20] (fun v f i wr => ∃ (k a : Nat) (pre : List Bs), i = I k ∧ f = I a ∧ pre.length ≤ k ∧ k ≤ bs.size + 1 ∧ wr.ownsRow (w.heap.size + 1) 9 1 v pre.length (pre.map S) ∧ Ext (w.alloc (.cells #[I 0, I 0, I 0, I 0] 23)) wr ∧ ((k ≤ bs.size ∧ Splits s k a pre) ∨ (k = bs.size + 1 ∧ pre = splitB 32 s)))
    (fun _ _ i _ => bs.size + 1 - (intOf i).toNat)
  case atStart => exact ⟨0, 0, [], rfl, rfl, Nat.le_refl _, by omega, World.ownsRow_nil _ _ _ _, Ext.refl _, .inl ⟨Nat.zero_le _, splits_zero s⟩⟩
  case round =>
    obtain ⟨k, a, pre, rfl, rfl, hpk, hks, ho, he, hsp⟩ := hrel
    by_cases hlt : k < bs.size + 1
    · have hsp' : Splits s k a pre := by
        rcases hsp with h | h
        · exact h.2
        · omega
      have HSP := Lib.hid hsp'
      have hak := hsp'.2.1
      clear hsp hsp'
      have hlit : ∀ (wx : World) (x : Bs), Row (wx.alloc (.cells #[S x] 9)) 1 (.slice (some ⟨wx.heap.size, 0, none⟩) 1 1) 1 [S x] := fun wx x =>
        Row.of_owns (World.ownsRow_lit (base := 0) (e := 9) (size := 1) wx #[S x] 1 (Nat.zero_le _) (by decide) rfl)
      by_cases hend : k = bs.size
      · have HE := Lib.hid hend
        have hz1 : ((k : Int) == (bs.size : Int)) = true := by simp; omega
        have hab : (a : Int) ≤ (k : Int) := by omega
        have hkb : (k : Int) ≤ (bs.size : Int) := by omega
        clear hend
        go_wp2_with (at_builtin; refine stop_at ?_)
        unfold Hid
        rw [HSLI.out a k]
        generalize hq : (s.drop a).take (k - a) = q
        have HQ := Lib.hid hq
        clear hq
        obtain ⟨i0, hi, hz0, hz3, hz4⟩ := info_parts Tryd.infoStr
        refine wpList_append_row _ rfl (.tmp 33) (.tmp 38) 38 rfl (w.heap.size + 1) 9 i0 (.string ByteArray.empty) 1 16 Tryd.underlying38 hi hz0 hz3 hz4 rfl (by decide) u4 pre.length (pre.map S) rfl (ho.alloc _) _ rfl 1 [S q] (hlit wr q) (mapS_one [q]) (by omega) (by decide) (by have := he.size; simp at this ⊢; omega) ?_
        intro o' w3 ho3 hg3
        have he3 := (he.alloc (.cells #[S q] 9)).grown hg3 (fun j hj => by have := (ho.lt j hj).1; simpa using this)
        have ho4 : w3.ownsRow (w.heap.size + 1) 9 1 o' (pre ++ [q]).length ((pre ++ [q]).map S) := by simpa using ho3
        clear hg3 ho3 hi hz0 hz3 hz4 hlit ho
        go_wp2
        go_roundw
        case rel =>
          refine ⟨k + 1, k + 1, pre ++ [q], by go_num, by go_num, by simp; omega, by omega, ho4, he3, .inr ⟨by rw [HE.out], ?_⟩⟩
          have hx := HSP.out
          have hkk : k = s.length := by rw [HSL.out, HE.out]
          rw [hkk] at hx
          rw [splits_end hx, ← HQ.out, hkk]
        case measure => simp [intOf]; omega
      · have hkl : k < bs.size := by omega
        have hc := HGET.out k hkl
        have hu := u8_eq (bs[k]'hkl) 32 (by decide)
        have HC := Lib.hid hc
        have hz1 : ((k : Int) == (bs.size : Int)) = false := by simp; omega
        have hz2 : (k : Int) < (bs.size : Int) := by omega
        have hab : (a : Int) ≤ (k : Int) := by omega
        clear hc
        by_cases hb : bs[k]'hkl = 32
        · have HB := Lib.hid hb
          rw [show decide (bs[k]'hkl = UInt8.ofNat 32) = true from decide_eq_true hb] at hu
          clear hb
          go_wp2_with (at_builtin; refine stop_at ?_)
          unfold Hid
          rw [HSLI.out a k]
          generalize hq : (s.drop a).take (k - a) = q
          have HQ := Lib.hid hq
          clear hq
          obtain ⟨i0, hi, hz0, hz3, hz4⟩ := info_parts Tryd.infoStr
          refine wpList_append_row _ rfl (.tmp 33) (.tmp 38) 38 rfl (w.heap.size + 1) 9 i0 (.string ByteArray.empty) 1 16 Tryd.underlying38 hi hz0 hz3 hz4 rfl (by decide) u4 pre.length (pre.map S) rfl (ho.alloc _) _ rfl 1 [S q] (hlit wr q) (mapS_one [q]) (by omega) (by decide) (by have := he.size; simp at this ⊢; omega) ?_
          intro o' w3 ho3 hg3
          have he3 := (he.alloc (.cells #[S q] 9)).grown hg3 (fun j hj => by have := (ho.lt j hj).1; simpa using this)
          have ho4 : w3.ownsRow (w.heap.size + 1) 9 1 o' (pre ++ [q]).length ((pre ++ [q]).map S) := by simpa using ho3
          clear hg3 ho3 hi hz0 hz3 hz4 hlit ho
          go_wp2
          go_roundw
          case rel =>
            refine ⟨k + 1, k + 1, pre ++ [q], by go_num, by go_num, by simp; omega, by omega, ho4, he3, .inl ⟨by omega, ?_⟩⟩
            rw [← HQ.out]
            exact splits_cut HSP.out (by rw [HSL.out]; exact hkl) (by rw [HC.out, HB.out])
          case measure => simp [intOf]; omega
        · have HB := Lib.hid hb
          rw [show decide (bs[k]'hkl = UInt8.ofNat 32) = false from decide_eq_false hb] at hu
          clear hb
          go_wp2
          go_roundw
          case rel =>
            refine ⟨k + 1, a, pre, by go_num, rfl, by omega, by omega, ho, he, .inl ⟨by omega, splits_next HSP.out (by rw [HSL.out]; exact hkl) ?_⟩⟩
            rw [HC.out]
            intro e
            exact HB.out (Option.some.inj e)
          case measure => simp [intOf]; omega
    · obtain ⟨x, r, hxr⟩ := splitB_form 32 s
      have hpre : pre = x :: r := by
        rcases hsp with h | h
        · omega
        · rw [h.2, hxr]
      subst hpre
      have HR : Hid (readCl s = readW2 x r) := by
        unfold Hid readCl
        rw [hxr]
        rfl
      have HYL : Hid (∀ y ∈ r, y.length ≤ 10000000) := fun y hy => by
        have := split_short 32 s y (by rw [hxr]; simp [hy])
        rw [HSL.out] at this
        omega
      obtain ⟨g, cap, cur, rfl, hgb, hgc, hcap, hcm, hx0, hxt⟩ := strs_own ho
      unfold maxLen at hcm
      have r0 : wr.heap[w.heap.size]? = some (.cells #[I 0, I 0, I 0, I 0] 23 (0, 0)) := block_ext he
      have m1 : Ext w wr := ((Ext.refl w).alloc _).trans he
      have hgs : g < wr.heap.size := (Array.getElem?_eq_some_iff.1 hgc).1
      have hnl : ¬ (k : Int) < (bs.size : Int) + 1 := by omega
      clear hsp ho hxr he HSLI HGET HSL hpk hks hlt
      go_wp2_with (go_at_call 22; refine (words_any _).mono ?_; rintro e w2 ⟨rfl, hw⟩; have hw2 := Lib.hid hw; clear hw)
      have e2 : Ext wr w2 := by rw [hw2.out]; exact ((Ext.refl wr).alloc _).alloc _
      have b1 : w2.heap[wr.heap.size]? = some (.cells wordsArr 9 (0, 0)) := by rw [hw2.out]; exact first_block (Ext.refl _)
      have b2 : w2.heap[wr.heap.size + 1]? = some (.cells countsArr 3 (0, 0)) := by rw [hw2.out]; exact second_block (Ext.refl _)
      have s2 : wr.heap.size + 1 < w2.heap.size := (Array.getElem?_eq_some_iff.1 b2).1
      have KP : Hid (∀ wx, (w2.alloc (.cells #[I 0, I 0, I 0, I 0] 23)).grownBy wx (some w2.heap.size) → wx.heap[g]? = some (.cells cur 9 (0, 0)) ∧ wx.heap[wr.heap.size]? = some (.cells wordsArr 9 (0, 0)) ∧ wx.heap[wr.heap.size + 1]? = some (.cells countsArr 3 (0, 0)) ∧ wx.heap[w.heap.size]? = some (.cells #[I 0, I 0, I 0, I 0] 23 (0, 0)) ∧ Ext w wx) := by
        intro wx hg
        have kept : ∀ (j : Nat) (o : Obj), j < w2.heap.size → w2.heap[j]? = some o → wx.heap[j]? = some o := fun j o hj ho => by
          have h3 := block_of ho ((Ext.refl w2).alloc (.cells #[I 0, I 0, I 0, I 0] 23))
          rw [hg.block j (Array.getElem?_eq_some_iff.1 h3).1 (fun e => by simp at e; omega)]
          exact h3
        have hsz := m1.size
        exact ⟨kept g _ (by omega) (block_of hgc e2), kept _ _ (by omega) b1, kept _ _ s2 b2, kept _ _ (by have := (Array.getElem?_eq_some_iff.1 r0).1; omega) (block_of r0 e2), ((m1.trans e2).alloc _).grown hg (fun j hj => by simp at hj; omega)⟩
      have H0 : Hid ((w2.alloc (.cells #[I 0, I 0, I 0, I 0] 23)).heap[w2.heap.size]? = some (.cells #[I 0, I 0, I 0, I 0] 23 (0, 0))) := heap_alloc_new w2 _
      have HX0 := Lib.hid hx0
      have HXT := Lib.hid hxt
      have hwh : w.heap.size < wr.heap.size := (Array.getElem?_eq_some_iff.1 r0).1
      clear hx0 hxt hgc b1 b2 r0 hw2 hnl e2 m1 s2 hgb hgs
      go_loopw [50] (fun i wq => ∃ j : Nat, j ≤ 7 ∧ i = I j ∧ (w2.alloc (.cells #[I 0, I 0, I 0, I 0] 23)).grownBy wq (some w2.heap.size) ∧ wq.heap[w2.heap.size]? = some (.cells #[I (kUp x j), I 0, I 0, I 0] 23 (0, 0))) (fun i _ => 7 - (intOf i).toNat)
      case atStart => exact ⟨0, by omega, rfl, World.grownBy.refl _ _, by rw [kUp_zero]; exact H0.out⟩
      case round =>
        obtain ⟨j, hj, rfl, hg, hb⟩ := hrel
        obtain ⟨q1, q2, q3, q4, mx⟩ := KP.out _ hg
        have cx := cell_block q1 HX0.out
        by_cases hlt : j < 7
        · have cw := cell_block q2 (words_at j hlt)
          obtain ⟨z0, -, -, -, f0, -⟩ := box4 hb
          have hjz : (j : Int) < 7 := by omega
          have HB := Lib.hid hb
          clear q1 q2 q3 q4 hb mx
          by_cases h0 : j = 0
          · subst h0
            have HM := Lib.hid (kUp_miss (x := x) (k := 0) (.inl rfl))
            go_wp2
            go_roundw
            case rel => exact ⟨1, by omega, rfl, hg, by rw [show kUp x 1 = kUp x 0 from HM.out]; exact HB.out⟩
            case measure => simp [intOf]
          · have hj0 : (0 : Int) < (j : Int) := by omega
            generalize hwd : wordOf (j : Int) = wd at cw
            by_cases hw : wd = x
            · have hwb : (wd == x) = true := by simpa using hw
              have HM := Lib.hid (kUp_hit (x := x) (k := j) (by omega) (by omega) (hwd.trans hw))
              clear hw hwd
              go_wp2
              go_roundw
              case rel =>
                refine ⟨j + 1, by omega, by go_num, grown_trans hg (grown_setCell _ _ _ _), ?_⟩
                rw [HM.out]
                have := heap_setCell_same _ _ 0 _ _ (I j) HB.out
                simpa using this
              case measure => simp [intOf]; omega
            · have hwb : (wd == x) = false := by simpa using hw
              have HM := Lib.hid (kUp_miss (x := x) (k := j) (.inr (by rw [hwd]; exact hw)))
              clear hw hwd
              go_wp2
              go_roundw
              case rel => exact ⟨j + 1, by omega, by go_num, hg, by rw [HM.out]; exact HB.out⟩
              case measure => simp [intOf]; omega
        · have hj7 : j = 7 := by omega
          subst hj7
          rw [kUp_end] at hb
          have hle := kindOf_le x
          clear hlt hj
          by_cases hk0 : kindOf x = 0
          · have HRD : Hid (readCl s = (zeroCl, 1)) := by unfold Hid; rw [HR.out]; unfold readW2; rw [if_pos hk0]
            rw [hk0] at hb
            obtain ⟨z0, -⟩ := box4 hb
            obtain ⟨c0, c1, c2, c3, f0, f1, f2, f3⟩ := box4 q4
            have hB := Lib.hid (set4 q4 (I 0) (I 0) (I 0) (I 0))
            clear q1 q2 q3 hb HR hk0 hle cx KP H0 HX0
            go_wp2
            obtain ⟨d0, d1, d2, d3, -⟩ := box4 hB.out
            clear c0 c1 c2 c3 f0 f1 f2 f3
            refine bodyPost_ret (by simp [results, Tryd.results7, go_sem, d0, d1, d2, d3]; rfl) rfl ?_
            rw [HRD.out]
            exact ⟨rfl, ext_set4 mx (Nat.le_refl _) _ _ _ _⟩
          · obtain ⟨kn, hkn⟩ : ∃ kn : Nat, kindOf x = kn := ⟨(kindOf x).toNat, by omega⟩
            have hk1 : 1 ≤ kn := by omega
            have hk6 : kn ≤ 6 := by omega
            rw [hkn] at hb
            have cc := cell_block q3 (counts_at kn (by omega))
            have hac : argc (kn : Int) ≤ 2 := argc_le _
            have hrd : readCl s = readN kn r := by
              rw [HR.out, readN_of hk0, hkn]
            have hkz : ((kn : Int) == 0) = false := by simp; omega
            clear HR hle hk0 hkn q2
            by_cases hl : r.length = argc (kn : Int)
            case neg =>
              have HRD : Hid (readCl s = (zeroCl, 2)) := by unfold Hid; rw [hrd, readN_len hl]
              generalize argc (kn : Int) = ac at *
              have hzb : ((r.length : Int) + 1 == (ac : Int) + 1) = false := by simp; omega
              obtain ⟨z0, -⟩ := box4 hb
              obtain ⟨c0, c1, c2, c3, f0, f1, f2, f3⟩ := box4 q4
              have hB := Lib.hid (set4 q4 (I 0) (I 0) (I 0) (I 0))
              clear q1 q3 hb hrd KP H0 HX0 HXT cx
              go_wp2
              obtain ⟨d0, d1, d2, d3, -⟩ := box4 hB.out
              clear c0 c1 c2 c3 f0 f1 f2 f3
              refine bodyPost_ret (by simp [results, Tryd.results7, go_sem, d0, d1, d2, d3]; rfl) rfl ?_
              rw [HRD.out]
              exact ⟨rfl, ext_set4 mx (Nat.le_refl _) _ _ _ _⟩
            have HRD := Lib.hid hrd
            have HLA := Lib.hid hl
            have HB := Lib.hid hb
            have HG := Lib.hid hg
            obtain ⟨z0, -⟩ := box4 hb
            rw [← hl] at cc
            have hr1 : (1 : Int) ≤ (r.length : Int) + 1 := by omega
            have hr2 : (r.length : Int) + 1 ≤ (cap : Int) := by omega
            have hr3 : (r.length : Int) ≤ 2 := by omega
            obtain ⟨d, hif, hU⟩ : ∃ d : Nat, (if cap = 1 then some (⟨g, 0, none⟩ : Addr) else some ⟨g, 1, none⟩) = some ⟨g, d, none⟩ ∧ ∀ wx : World, wx.heap[g]? = some (.cells cur 9 (0, 0)) → Strs wx (.slice (some ⟨g, d, none⟩) r.length (cap - 1)) r := by
              by_cases h1 : cap = 1
              · have hr : r = [] := List.eq_nil_of_length_eq_zero (by omega)
                refine ⟨0, by rw [if_pos h1], fun wx hx => ?_⟩
                subst hr
                exact strs_block hx (fun j u hj => by simp at hj) (by simp) (by unfold maxLen; omega)
              · exact ⟨1, by rw [if_neg h1], fun wx hx => strs_block hx HXT.out (by omega) (by unfold maxLen; omega)⟩
            have HU := Lib.hid hU
            clear hrd hl hb hac q1 q3 q4 hg mx hU
            go_wp2
            clear cc z0 hif cx
            go_loopw [84] (fun i wq => ∃ (j : Nat) (ns : List Int), j ≤ r.length ∧ i = I j ∧ numsOf (r.take j) = some ns ∧ (w2.alloc (.cells #[I 0, I 0, I 0, I 0] 23)).grownBy wq (some w2.heap.size) ∧ wq.heap[w2.heap.size]? = some (.cells #[I kn, I (mkCl kn ns).name, I (mkCl kn ns).other, I (mkCl kn ns).n] 23 (0, 0))) (fun i _ => r.length - (intOf i).toNat)
            case atStart => exact ⟨0, [], by omega, rfl, by simp [numsOf], HG.out, by rw [mk_nil]; exact HB.out⟩
            case round =>
              obtain ⟨j, ns, hj, rfl, hn, hg, hb⟩ := hrel
              obtain ⟨q1, -, -, q4, mx⟩ := KP.out _ hg
              have hst := HU.out _ q1
              have hvr := hv.ext mx
              have HNS := Lib.hid hn
              have hnl := numsOf_len hn
              clear hn q1 HG HB H0 HX0 HXT
              by_cases hlt : j < r.length
              · obtain ⟨ao', cap', ea, -, -, cy⟩ := hst.form
                simp only [Value.slice.injEq, true_and] at ea
                obtain ⟨rfl, rfl⟩ := ea
                obtain ⟨b', off', ee, cy⟩ := cy j hlt
                simp only [Option.some.injEq, Addr.mk.injEq, and_true] at ee
                obtain ⟨rfl, rfl⟩ := ee
                have hmem : r.getD j [] ∈ r := by simp [hlt]
                have hyl := HYL.out _ hmem
                have ex1 : r.take (j + 1) = r.take j ++ [r.getD j []] := take_next' r j hlt []
                have hjz : (j : Int) < (r.length : Int) := by omega
                rw [List.length_take, Nat.min_eq_left (by omega)] at hnl
                clear hst
                generalize r.getD j [] = y at cy hmem hyl ex1
                have HMEM := Lib.hid hmem
                have EX := Lib.hid ex1
                have HNL := Lib.hid hnl
                have HQ4 := Lib.hid q4
                have HBK := Lib.hid hb
                have HGR := Lib.hid hg
                clear hmem ex1 hnl q4 hb hg
                cases hnum : numOf y with
                | none =>
                  have HRD2 : Hid (readCl s = (zeroCl, 2)) := by unfold Hid; rw [HRD.out, readN_none (numsOf_bad HMEM.out hnum)]
                  by_cases hok : ∃ v', Lib.atoiAll y = .ok v'
                  · obtain ⟨v', ha⟩ := hok
                    rw [numOf_ok ha] at hnum
                    have hne : ¬ Lib.itoa v' = y := fun e => by rw [if_pos e] at hnum; cases hnum
                    obtain ⟨f1, f2⟩ := atoi_fits ha
                    have c1 := fun wx => atoi_ok y (by omega) v' ha wx
                    have c2 := fun wx hx => itoa_any v' f1 f2 wx hx
                    generalize Lib.itoa v' = q at c2 hne
                    have hqb : (q == y) = false := by simpa using hne
                    clear hnum ha hne KP
                    go_wp2_with (first
                      | (go_at_call 23; refine Calls.exts (c1 _) ?_; intro w4 e4)
                      | (go_at_call 24; refine Calls.exts (c2 _ (hvr.ext e4)) ?_; intro w5 e5; obtain ⟨x0, x1, x2, x3, y0, y1, y2, y3⟩ := box4 (block_of HQ4.out (e4.trans e5))))
                    have hB := set4 (block_of HQ4.out (e4.trans e5)) (I 0) (I 0) (I 0) (I 0)
                    obtain ⟨d0, d1, d2, d3, -⟩ := box4 hB
                    clear x0 x1 x2 x3 y0 y1 y2 y3
                    refine bodyPost_ret (by simp [results, Tryd.results7, go_sem, d0, d1, d2, d3]; rfl) rfl ?_
                    rw [HRD2.out]
                    exact ⟨rfl, ext_set4 ((mx.trans e4).trans e5) (Nat.le_refl _) _ _ _ _⟩
                  · have c1 := fun wx hx => atoi_err y (by omega) (fun v h => hok ⟨v, h⟩) wx hx
                    clear hnum hok KP
                    go_wp2_with (go_at_call 23; refine (c1 _ hvr).mono ?_; rintro e w4 ⟨n', tp, pp, rfl, e4⟩; obtain ⟨x0, x1, x2, x3, y0, y1, y2, y3⟩ := box4 (block_of HQ4.out e4))
                    have hB := set4 (block_of HQ4.out e4) (I 0) (I 0) (I 0) (I 0)
                    obtain ⟨d0, d1, d2, d3, -⟩ := box4 hB
                    clear x0 x1 x2 x3 y0 y1 y2 y3
                    refine bodyPost_ret (by simp [results, Tryd.results7, go_sem, d0, d1, d2, d3]; rfl) rfl ?_
                    rw [HRD2.out]
                    exact ⟨rfl, ext_set4 (mx.trans e4) (Nat.le_refl _) _ _ _ _⟩
                | some v =>
                  obtain ⟨ha, hiy⟩ := numOf_some hnum
                  obtain ⟨f1, f2⟩ := atoi_fits ha
                  have c1 := fun wx => atoi_ok y (by omega) v ha wx
                  have c2 := fun wx hx => itoa_any v f1 f2 wx hx
                  rw [hiy] at c2
                  have HNUM := Lib.hid hnum
                  clear hnum ha hiy f1 f2 KP
                  by_cases hj0 : j = 0
                  · have hjb : ((j : Int) == 0) = true := by simp; omega
                    have hnl0 : ns.length = 0 := by rw [HNL.out]; exact hj0
                    obtain rfl : ns = [] := List.eq_nil_of_length_eq_zero hnl0
                    rw [mk_nil] at HBK
                    clear hj0 hnl0
                    go_wp2_with (first
                      | (go_at_call 23; refine Calls.exts (c1 _) ?_; intro w4 e4)
                      | (go_at_call 24; refine Calls.exts (c2 _ (hvr.ext e4)) ?_; intro w5 e5; obtain ⟨x0, x1, x2, x3, y0, y1, y2, y3⟩ := box4 (block_of HBK.out (e4.trans e5))))
                    go_roundw
                    case rel =>
                      (repeat apply Exists.intro)
                      refine ⟨?_, rfl⟩
                      refine ⟨j + 1, [] ++ [v], by omega, by go_num, by rw [EX.out]; exact numsOf_snoc _ _ _ _ HNS.out HNUM.out, grown_trans (grown_trans HGR.out ((e4.trans e5).grownBy _)) (grown_setCell _ _ _ _), ?_⟩
                      have := heap_setCell_same _ _ 1 _ _ (I v) (block_of HBK.out (e4.trans e5))
                      rw [show mkCl (kn : Int) ([] ++ [v]) = ⟨kn, v, 0, 0⟩ from mk_one kn v]
                      simpa using this
                    case measure => simp [intOf]; omega
                  · have hjb : ((j : Int) == 0) = false := by simp; omega
                    have hj1 : j = 1 := by omega
                    have hnl1 : ns.length = 1 := by rw [HNL.out]; exact hj1
                    obtain ⟨a0, rfl⟩ : ∃ a0, ns = [a0] := by
                      match ns, hnl1 with
                      | [a0], _ => exact ⟨a0, rfl⟩
                    rw [mk_one] at HBK
                    clear hj0 hj1 hnl1
                    by_cases hk66 : kn = 6
                    · subst hk66
                      have HK66 : Hid (mkCl ((6 : Nat) : Int) ([a0] ++ [v]) = ⟨(6 : Nat), a0, v, 0⟩) := by
                        unfold Hid
                        show mkCl ((6 : Nat) : Int) [a0, v] = _
                        rw [mk_two, if_pos (by rfl), if_pos (by rfl)]
                      go_wp2_with (first
                        | (go_at_call 23; refine Calls.exts (c1 _) ?_; intro w4 e4)
                        | (go_at_call 24; refine Calls.exts (c2 _ (hvr.ext e4)) ?_; intro w5 e5; obtain ⟨x0, x1, x2, x3, y0, y1, y2, y3⟩ := box4 (block_of HBK.out (e4.trans e5))))
                      go_roundw
                      case rel =>
                        (repeat apply Exists.intro)
                        refine ⟨?_, rfl⟩
                        refine ⟨j + 1, [a0] ++ [v], by omega, by go_num, by rw [EX.out]; exact numsOf_snoc _ _ _ _ HNS.out HNUM.out, grown_trans (grown_trans HGR.out ((e4.trans e5).grownBy _)) (grown_setCell _ _ _ _), ?_⟩
                        have := heap_setCell_same _ _ 2 _ _ (I v) (block_of HBK.out (e4.trans e5))
                        rw [HK66.out]
                        simpa using this
                      case measure => simp [intOf]; omega
                    · have hk66b : ((kn : Int) == 6) = false := by simp; omega
                      have HK66 : Hid (mkCl (kn : Int) ([a0] ++ [v]) = ⟨kn, a0, 0, v⟩) := by
                        unfold Hid
                        show mkCl (kn : Int) [a0, v] = _
                        rw [mk_two, if_neg (by omega), if_neg (by omega)]
                      clear hk66
                      go_wp2_with (first
                        | (go_at_call 23; refine Calls.exts (c1 _) ?_; intro w4 e4)
                        | (go_at_call 24; refine Calls.exts (c2 _ (hvr.ext e4)) ?_; intro w5 e5; obtain ⟨x0, x1, x2, x3, y0, y1, y2, y3⟩ := box4 (block_of HBK.out (e4.trans e5))))
                      go_roundw
                      case rel =>
                        (repeat apply Exists.intro)
                        refine ⟨?_, rfl⟩
                        refine ⟨j + 1, [a0] ++ [v], by omega, by go_num, by rw [EX.out]; exact numsOf_snoc _ _ _ _ HNS.out HNUM.out, grown_trans (grown_trans HGR.out ((e4.trans e5).grownBy _)) (grown_setCell _ _ _ _), ?_⟩
                        have := heap_setCell_same _ _ 3 _ _ (I v) (block_of HBK.out (e4.trans e5))
                        rw [HK66.out]
                        simpa using this
                      case measure => simp [intOf]; omega
              · have hjr : j = r.length := by omega
                have hns := HNS.out
                rw [hjr, List.take_of_length_le (Nat.le_refl _)] at hns
                have hrd := HRD.out
                rw [readN_some HLA.out hns] at hrd
                have hwc := fun wx => refWrongCall_any (mkCl kn ns).kind (mkCl kn ns).name (mkCl kn ns).other (mkCl kn ns).n wx
                rw [mk_kind] at hwc
                have hck : (mkCl (kn : Int) ns).kind = kn := rfl
                clear hns hst hnl KP HU HRD HNS HLA hjr
                generalize mkCl (kn : Int) ns = c at *
                obtain ⟨ck, ca, co, cn⟩ := c
                simp only [] at hb hrd hwc hck
                subst hck
                generalize wrongCl ⟨kn, ca, co, cn⟩ = er at *
                have HRD := Lib.hid hrd
                have HQ4 := Lib.hid q4
                have HBK := Lib.hid hb
                obtain ⟨z0, z1, z2, z3, -⟩ := box4 hb
                clear hrd q4 hb
                by_cases he0 : er = 0
                case neg =>
                  have heb : (er == 0) = false := by simpa using he0
                  have HRD2 : Hid (readCl s = (zeroCl, er)) := by unfold Hid; rw [HRD.out, if_pos he0]
                  clear HRD
                  go_wp2_with (go_at_call 11; refine Calls.exts (hwc _) ?_; intro w6 e6; obtain ⟨x0, x1, x2, x3, y0, y1, y2, y3⟩ := box4 (block_of HQ4.out e6))
                  have hB := set4 (block_of HQ4.out e6) (I 0) (I 0) (I 0) (I 0)
                  obtain ⟨d0, d1, d2, d3, -⟩ := box4 hB
                  clear x0 x1 x2 x3 y0 y1 y2 y3
                  refine bodyPost_ret (by simp [results, Tryd.results7, go_sem, d0, d1, d2, d3]; rfl) rfl ?_
                  rw [HRD2.out]
                  exact ⟨rfl, ext_set4 (mx.trans e6) (Nat.le_refl _) _ _ _ _⟩
                case pos =>
                  subst he0
                  have HRD2 : Hid (readCl s = (⟨kn, ca, co, cn⟩, 0)) := by unfold Hid; rw [HRD.out, if_neg (by simp)]
                  clear HRD
                  go_wp2_with (go_at_call 11; refine Calls.exts (hwc _) ?_; intro w6 e6; obtain ⟨x0, x1, x2, x3, y0, y1, y2, y3⟩ := box4 (block_of HQ4.out e6); obtain ⟨t0, t1, t2, t3, -⟩ := box4 (block_of HBK.out e6))
                  have hB := set4 (block_of HQ4.out e6) (I kn) (I ca) (I co) (I cn)
                  obtain ⟨d0, d1, d2, d3, -⟩ := box4 hB
                  clear x0 x1 x2 x3 y0 y1 y2 y3
                  refine bodyPost_ret (by simp [results, Tryd.results7, go_sem, d0, d1, d2, d3]; rfl) rfl ?_
                  rw [HRD2.out]
                  exact ⟨rfl, ext_set4 (mx.trans e6) (Nat.le_refl _) _ _ _ _⟩

theorem refReadCall_any (s : Bs) (hs : s.length ≤ 10000000) (w : World) (hv : Vars w) : Calls Tryd.prog 7 #[S s] w fun e w' => e = .returned (.tuple #[A (readCl s).1, I (readCl s).2]) ∧ Ext w w' :=
  refReadCall_b ⟨s.toArray⟩ (by rw [Lib.size_eq]; exact hs) w hv

end Go.Proofs.YtdmipnnfoolelabDoor

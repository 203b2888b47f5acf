/- Walks: what the document says a call does: dropping. -/
import Derived.Test.YtdmipnnfoolelabR2
namespace Go.Proofs.Ytdmipnnfoolelab
open Go.RowKit Go.Mk

theorem dropR_take (l : List (Int × Int)) (a : Int) {k : Nat} (hk : k < l.length - 1) :
    (dropR l a).take (k + 1) = (dropR l a).take k ++ [if (l.getD k (0, 0)).1 = a then l.getD (l.length - 1) (0, 0) else l.getD k (0, 0)] := by
  have e : (dropR l a)[k]? = some ((dropR l a).getD k (0, 0)) := by
    have : k < (dropR l a).length := by rw [length_dropR]; exact hk
    rw [List.getD_eq_getElem?_getD, List.getElem?_eq_getElem this]
    rfl
  rw [List.take_add_one, e, ← getD_dropR _ _ _ hk]
  rfl

set_option maxRecDepth 100000 in
set_option maxHeartbeats 2000000 in
theorem wDo_drop (v : Value) (l : List (Int × Int)) (a o n : Int) (w : World) (hv : Writes w v l) (hl : Okw l) (ha : at1 l a < l.length) :
    Calls Try.prog 13 #[v, .agg #[I 3, I a, I o, I n]] w fun e w' => DoesW w v l ⟨3, a, o, n⟩ e w' ∧ Ext w w' := by
  obtain ⟨i0, hi, hz0, hz1, hz2⟩ := info_parts Try.infoWrite2
  have hmf := func_mk
  have hl5 := hl.len
  obtain ⟨ao, cap, rfl, g1, g2, g3⟩ := hv.form
  unfold maxLen at g2
  have H3 : Hid _ := g3
  clear g3
  go_enter Try.func13, Try.ntmps13
  go_wp2_with fail
  refine Calls.exts (rget_any _ l a _ (hv.ext ((((Ext.refl w).alloc _).alloc _).alloc _))) (fun w1 e1 => ?_)
  obtain ⟨s0, q0, q1, q2, q3, x0, x1, hbx, hw1⟩ := rbox w1 e1
  obtain ⟨_, _, f0, f1⟩ := box_of hbx (Ext.refl w1)
  have hv1 := hv.ext hw1
  have hbs : w.heap.size + 1 + 1 < w1.heap.size := (Array.getElem?_eq_some_iff.1 hbx).1
  have hy := isR_hit ha
  have hy2 := getR_hit ha
  rw [hy, hy2]
  clear hy hy2
  generalize hM : num l (at1 l a) = m0 at *
  have HD : Hid (doR l ⟨3, a, o, n⟩ = (dropR l a, ⟨0, m0⟩)) := by
    unfold Hid
    rw [doR_drop, if_neg (by simpa using ha), hM]
  clear hM
  have hv1f := hv1.form
  obtain ⟨ao', cap', he', _, _, g3⟩ := hv1f
  simp only [Value.slice.injEq, true_and] at he'
  obtain ⟨rfl, rfl⟩ := he'
  obtain ⟨b, off, rfl, _⟩ := g3 0 (by omega)
  have HC : Hid (∀ j, j < l.length → w1.cell? ⟨b, off + j * 2, none⟩ = some (I (l.getD j (0, 0)).1) ∧ w1.cell? ⟨b, off + j * 2 + 1, none⟩ = some (I (l.getD j (0, 0)).2)) := fun j hj => by
    obtain ⟨b', off', e', r1, r2⟩ := g3 j hj
    simp only [Option.some.injEq, Addr.mk.injEq, and_true] at e'
    obtain ⟨rfl, rfl⟩ := e'
    exact ⟨r1, r2⟩
  clear g3 H3
  have HX : Hid (∀ k, k < l.length - 1 → (dropR l a).take (k + 1) = (dropR l a).take k ++ [if (l.getD k (0, 0)).1 = a then l.getD (l.length - 1) (0, 0) else l.getD k (0, 0)]) := fun k hk => dropR_take l a hk
  have HLD : Hid ((dropR l a).length = l.length - 1) := length_dropR l a
  go_wp2_with fail
  go_loopw [9, 78] (fun out i wr => ∃ k : Nat, k ≤ l.length ∧ i = I k ∧ wr.ownsRow w1.heap.size 43 2 out (min k (l.length - 1)) (cells2 ((dropR l a).take k)) ∧ Ext w1 wr) (fun _ i _ => l.length - (intOf i).toNat)
  case atStart => exact ⟨0, by omega, rfl, by rw [Nat.zero_min]; exact World.ownsRow_nil _ _ _ _, Ext.refl w1⟩
  case round =>
    obtain ⟨k, hk, rfl, ho, he⟩ := hrel
    by_cases hlt : k < l.length
    · obtain ⟨c1, c2⟩ := HC.out k hlt
      obtain ⟨c3, c4⟩ := HC.out (l.length - 1) (by omega)
      replace c1 := he.cell c1
      replace c2 := he.cell c2
      have t0 := he.cell s0
      have t1 := he.cell q1
      have u0 := fun o => ((Ext.refl wr).alloc o).cell t0
      have u1 := fun o => ((Ext.refl wr).alloc o).cell t1
      have u3 := fun o => ((Ext.refl wr).alloc o).cell (he.cell c3)
      have u4 := fun o => ((Ext.refl wr).alloc o).cell (he.cell c4)
      clear c3 c4 t0 t1
      have HXk := HX.out k
      have HT : Hid (k < l.length - 1 → (dropR l a).take (k + 1) = (dropR l a).take k ++ [if (l.getD k (0, 0)).1 = a then l.getD (l.length - 1) (0, 0) else l.getD k (0, 0)]) := HXk
      clear HXk
      generalize hL : l.length - 1 = L at *
      have hLi : (l.length : Int) - 1 = (L : Int) := by omega
      have hLt : (L : Int) < (l.length : Int) := by omega
      generalize l.getD L (0, 0) = q at *
      generalize l.getD k (0, 0) = p at *
      obtain ⟨at_, m⟩ := p
      obtain ⟨b_, y⟩ := q
      simp only [] at c1 c2 u3 u4 HT
      by_cases hn : at_ = a
      · have hb : (at_ == a) = true := by simp [hn]
        have HN : Hid (at_ = a) := hn
        clear hn
        by_cases hkL : k < L
        · have hkL' : (k : Int) < (L : Int) := by omega
          rw [show min k L = k by omega] at ho
          go_wp2_with (at_builtin; refine stop_at ?_)
          unfold Hid
          refine wpList_append_row _ rfl (.tmp 99) (.tmp 101) 28 rfl w1.heap.size 43 i0 (.agg #[.int .i64 0, .int .i64 0]) 2 16 Try.underlying28 hi hz0 hz1 hz2 rfl (by decide) u9 k (cells2 ((dropR l a).take k)) rfl ((ho.alloc _).alloc _) _ rfl 1 [I b_, I y] (writes_lit1 _ _ [(b_, y)] _ 1 rfl rfl (by decide)) (cells2_one [(b_, y)]) (by omega) (by decide) (by have := he.size; simp; omega) ?_
          intro o' w3 ho3 hg3
          have he3 : Ext w1 w3 := ((he.alloc _).alloc _).grown hg3 (fun j hj => (ho.lt j hj).1)
          clear hg3
          go_wp2
          go_roundw
          case rel =>
            refine ⟨k + 1, by omega, by go_num, ?_, he3⟩
            rw [HT.out hkL, if_pos HN.out, cells2_append, show min (k + 1) L = k + 1 by omega]
            exact ho3
          case measure => simp [intOf]; omega
        · have hkL' : ¬ (k : Int) < (L : Int) := by omega
          go_wp2
          go_roundw
          case rel =>
            refine ⟨k + 1, by omega, by go_num, ?_, he.alloc _⟩
            rw [show min (k + 1) L = min k L by omega, List.take_of_length_le (by rw [HLD.out]; omega)]
            rw [List.take_of_length_le (by rw [HLD.out]; omega)] at ho
            exact ho.alloc _
          case measure => simp [intOf]; omega
      · have hb : (at_ == a) = false := by simpa using hn
        have HN : Hid (¬ at_ = a) := hn
        clear hn
        by_cases hkL : k < L
        · have hkL' : (k : Int) < (L : Int) := by omega
          rw [show min k L = k by omega] at ho
          go_wp2_with (at_builtin; refine stop_at ?_)
          unfold Hid
          refine wpList_append_row _ rfl (.tmp 99) (.tmp 101) 28 rfl w1.heap.size 43 i0 (.agg #[.int .i64 0, .int .i64 0]) 2 16 Try.underlying28 hi hz0 hz1 hz2 rfl (by decide) u9 k (cells2 ((dropR l a).take k)) rfl ((ho.alloc _).alloc _) _ rfl 1 [I at_, I m] (writes_lit1 _ _ [(at_, m)] _ 1 rfl rfl (by decide)) (cells2_one [(at_, m)]) (by omega) (by decide) (by have := he.size; simp; omega) ?_
          intro o' w3 ho3 hg3
          have he3 : Ext w1 w3 := ((he.alloc _).alloc _).grown hg3 (fun j hj => (ho.lt j hj).1)
          clear hg3
          go_wp2
          go_roundw
          case rel =>
            refine ⟨k + 1, by omega, by go_num, ?_, he3⟩
            rw [HT.out hkL, if_neg HN.out, cells2_append, show min (k + 1) L = k + 1 by omega]
            exact ho3
          case measure => simp [intOf]; omega
        · have hkL' : ¬ (k : Int) < (L : Int) := by omega
          go_wp2
          go_roundw
          case rel =>
            refine ⟨k + 1, by omega, by go_num, ?_, he.alloc _⟩
            rw [show min (k + 1) L = min k L by omega, List.take_of_length_le (by rw [HLD.out]; omega)]
            rw [List.take_of_length_le (by rw [HLD.out]; omega)] at ho
            exact ho.alloc _
          case measure => simp [intOf]; omega
    · rw [List.take_of_length_le (by rw [HLD.out]; omega)] at ho
      obtain ⟨x0, x1, f0, f1⟩ := box_of hbx he
      have m3 := hw1.trans he
      have hh : Has w1.heap.size wr u9 (dropR l a) := ⟨_, _, _, ho, fun w2 h2 => writes_of_owns h2⟩
      go_wp2
      try simp only [Exit.inBlock, Exit.then]
      refine bodyPost_ret (by simp [results, Try.results13, go_sem, x0, x1]; rfl) rfl ?_
      exact ⟨doesW_new (r := ⟨0, m0⟩) HD.out ((hh.set hbs _ _).set hbs _ _) hw1.size, (m3.setCell (by simp only []; omega) _).setCell (by simp only []; omega) _⟩

end Go.Proofs.Ytdmipnnfoolelab

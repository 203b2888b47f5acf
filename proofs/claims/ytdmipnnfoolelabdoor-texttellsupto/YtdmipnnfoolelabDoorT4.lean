/- Walks: a call is read. -/
import Derived.Test.YtdmipnnfoolelabDoorT3
import Derived.Test.YtdmipnnfoolelabDoorM1a
import Derived.Test.YtdmipnnfoolelabDoorBox
import Derived.Deep.DeepCutAuto
namespace Go.Proofs.YtdmipnnfoolelabDoor
open Go.RowKit Go.Mk

set_option maxHeartbeats 2000000 in
theorem readCall_kind (s x : Bs) (r : List Bs) (hp : pieces s = x :: r) (hs : s.length ≤ 1000000000) (hk : kindOf x = 0) (w : World) :
    Calls Tryd.prog 6 #[S s] w fun e w' => e = .returned (.tuple #[A zeroCl, I 1]) ∧ Ext w w' := by
  have hsp : ∀ wx, Calls Tryd.prog 17 #[S s, S [32], I 4] wx fun e w' => ∃ cs : Array Value, e = .returned (.slice (some ⟨wx.heap.size, 0, none⟩) (r.length + 1) (min 4 (s.length + 1))) ∧ w' = wx.alloc (.cells cs 9) ∧ cs[0]? = some (S x) := fun wx =>
    (splitN_any s hs wx).mono fun e w' ⟨cs, he, hw, hc⟩ => by
      rw [hp] at he hc
      exact ⟨cs, he, hw, hc 0 _ rfl⟩
  have hkk : ∀ wx, Calls Tryd.prog 18 #[S x] wx fun e w' => e = .returned (I 0) ∧ Ext wx w' := fun wx => by rw [← hk]; exact kindOf_any x wx
  clear hp hk
  go_enter Tryd.func6, Tryd.ntmps6
  go_wp2_with (first
    | (go_at_call 17; refine (hsp _).mono ?_; rintro e w1 ⟨cs, rfl, hw, hc⟩; rw [hw])
    | (go_at_call 18; refine Calls.exts (hkk _) ?_; intro w2 e2; have hA := fun o => box4 (block_of (first_block e2) ((Ext.refl w2).alloc o)); have c0 := fun o => (hA o).1; have c1 := fun o => (hA o).2.1; have c2 := fun o => (hA o).2.2.1; have c3 := fun o => (hA o).2.2.2.1; have f0 := fun o => (hA o).2.2.2.2.1; have f1 := fun o => (hA o).2.2.2.2.2.1; have f2 := fun o => (hA o).2.2.2.2.2.2.1; have f3 := fun o => (hA o).2.2.2.2.2.2.2; clear hA))
  have hB := set4 (block_of (first_block e2) ((Ext.refl w2).alloc (.cells #[I 0, I 0, I 0, I 0] 23))) (I 0) (I 0) (I 0) (I 0)
  obtain ⟨d0, d1, d2, d3, -⟩ := box4 hB
  have hE := ext_set4 (((((Ext.refl w).alloc _).alloc _).trans e2).alloc (.cells #[I 0, I 0, I 0, I 0] 23)) (Nat.le_refl w.heap.size) (I 0) (I 0) (I 0) (I 0)
  clear c0 c1 c2 c3 f0 f1 f2 f3
  refine bodyPost_ret (by simp [results, Tryd.results6, go_sem, d0, d1, d2, d3]; rfl) rfl ?_
  exact ⟨rfl, hE⟩

theorem fields_at (k : Int) : ∀ j, j < (fieldsOf k).length → (fieldsOf k).getD j 0 < 4 := by
  intro j hj
  unfold fieldsOf at hj ⊢
  repeat' split at hj
  all_goals
    simp at hj
    try (match j, hj with
      | 0, _ => simp_all
      | 1, _ => simp_all)

theorem puts_mk {k : Int} {ns : List Int} (hk : 1 ≤ k ∧ k ≤ 6) (hn : ns.length = argc k) :
    puts #[I k, I 0, I 0, I 0] (fieldsOf k) ns = #[I (mkCl k ns).kind, I (mkCl k ns).name, I (mkCl k ns).other, I (mkCl k ns).n] := by
  have : k = 1 ∨ k = 2 ∨ k = 3 ∨ k = 4 ∨ k = 5 ∨ k = 6 := by omega
  rcases this with rfl | rfl | rfl | rfl | rfl | rfl
  all_goals
    rcases ns with _ | ⟨a, _ | ⟨b, _ | ⟨d, r⟩⟩⟩
    all_goals first | rfl | (exact absurd hn (by simp [argc]))
theorem read_form {x : Bs} {r : List Bs} {k : Int} (hk : kindOf x = k) (hk0 : k ≠ 0) (h : fillOk (fieldsOf k) r = false) : readW2 x r = (zeroCl, 2) := by
  unfold readW2
  rw [hk, if_neg hk0]
  by_cases hl : r.length ≠ argc k
  · rw [if_pos hl]
  · rw [if_neg hl]
    unfold fillOk at h
    rw [length_fields] at h
    simp only [ne_eq, Decidable.not_not] at hl
    rw [hl] at h
    simp at h
    rw [h]
theorem read_wrong {x : Bs} {r : List Bs} {k : Int} (hk : kindOf x = k) (hk0 : k ≠ 0) (h : fillOk (fieldsOf k) r = true) : ∃ ns, numsOf r = some ns ∧ r.length = (fieldsOf k).length ∧ ns.length = argc k ∧ (1 ≤ k ∧ k ≤ 6) ∧
    readW2 x r = if wrongCl (mkCl k ns) ≠ 0 then (zeroCl, wrongCl (mkCl k ns)) else (mkCl k ns, 0) := by
  unfold fillOk at h
  simp only [Bool.and_eq_true, beq_iff_eq] at h
  obtain ⟨ns, hn⟩ := Option.isSome_iff_exists.1 h.2
  have h1 := h.1
  rw [length_fields] at h1
  obtain ⟨_, k1, k2⟩ := word_kind (w := x) (by rw [hk]; exact hk0)
  rw [hk] at k1 k2
  refine ⟨ns, hn, h.1, by rw [numsOf_len hn]; exact h1, ⟨k1, k2⟩, ?_⟩
  unfold readW2
  rw [hk, if_neg hk0, if_neg (by simpa using h1), hn]
set_option maxHeartbeats 4000000 in
theorem readCall_kinds (s x : Bs) (r : List Bs) (hp : pieces s = x :: r) (hs : s.length ≤ 1000000000) (k : Int) (hk : kindOf x = k) (hk0 : k ≠ 0) (w : World) (hv : Vars w) :
    Calls Tryd.prog 6 #[S s] w fun e w' => e = .returned (.tuple #[A (readW2 x r).1, I (readW2 x r).2]) ∧ Ext w w' := by
  have hsp : ∀ wx, Calls Tryd.prog 17 #[S s, S [32], I 4] wx fun e w' => ∃ cs : Array Value, e = .returned (.slice (some ⟨wx.heap.size, 0, none⟩) (r.length + 1) (min 4 (s.length + 1))) ∧ w' = wx.alloc (.cells cs 9) ∧ cs[0]? = some (S x) ∧ ∀ (j : Nat) u, (r.map S)[j]? = some u → cs[1 + j]? = some u := fun wx =>
    (splitN_any s hs wx).mono fun e w' ⟨cs, he, hw, hc⟩ => by
      rw [hp] at he hc
      exact ⟨cs, he, hw, hc 0 _ rfl, fun j u hj => hc (1 + j) u (by rw [Nat.add_comm]; exact hj)⟩
  have hkk : ∀ wx, Calls Tryd.prog 18 #[S x] wx fun e w' => e = .returned (I k) ∧ Ext wx w' := fun wx => by rw [← hk]; exact kindOf_any x wx
  have hle : r.length + 1 ≤ min 4 (s.length + 1) := by have := pieces_le s; rw [hp] at this; simpa using this
  have hsh : ∀ j, j < r.length → (r.getD j []).length ≤ 1000000000 := fun j hj => by
    have hm : r.getD j [] ∈ pieces s := by rw [hp]; simp [hj]
    have := pieces_short _ _ _ hm
    omega
  have hkb : (k == 0) = false := by simpa using hk0
  have HK : Hid (kindOf x = k) := hk
  clear hp hk hk0
  go_enter Tryd.func6, Tryd.ntmps6
  go_wp2_with (first
    | (go_at_call 17; refine (hsp _).mono ?_; rintro e w1 ⟨cs, rfl, hw, hc, ht⟩; rw [hw])
    | (go_at_call 18; refine Calls.exts (hkk _) ?_; intro w2 e2)
    | fail)
  have b0 : w2.heap[w.heap.size]? = some (.cells #[I 0, I 0, I 0, I 0] 23 (0, 0)) := first_block e2
  have b1 : w2.heap[w.heap.size + 1]? = some (.cells cs 9 (0, 0)) := second_block e2
  have m2 : Ext w w2 := (((Ext.refl w).alloc _).alloc _).trans e2
  have s2 : w.heap.size + 1 < w2.heap.size := (Array.getElem?_eq_some_iff.1 b1).1
  have h0 : ∀ wx, Ext (w2.alloc (.cells #[I k, I 0, I 0, I 0] 23)) wx → wx.cell? ⟨w2.heap.size, 0, none⟩ = some (I k) := fun wx hx => cell_block (block_ext hx) rfl
  have hr1 : (1 : Int) ≤ (r.length : Int) + 1 := by omega
  have hr2 : (r.length : Int) + 1 ≤ ((min 4 (s.length + 1) : Nat) : Int) := by omega
  refine wp_region_mono_tail 3 [some (.inr fun v wx => PtrsO (w2.heap.size + 1) wx v w2.heap.size (fieldsOf k)), none, none] (by kernel_rfl) (by kernel_rfl) ?_ ?_
  · exact ⟨monoPtrsO _ _ _, trivial, trivial, trivial⟩
  refine wpM_l _ rfl (fun w' hw' _ => ?_) (fun v18 => ?_)
  · have hg : Gives Tryd.prog 20 #[.pointer (some ⟨w2.heap.size, 0, none⟩)] w' (fun v wx => PtrsO (w2.heap.size + 1) wx v w2.heap.size (fieldsOf k)) :=
      Gives.mono (places_any w2.heap.size k w' (h0 w' hw')) (fun r w'' _ h => owns_base h (by have := hw'.size; simpa using this))
    unfold makes
    go_simp
    exact ⟨Ext.refl _, hg⟩
  iterate 2 (refine wpM_p (fun K hK => ?_); go_simp; refine hK _ ?_; clear hK K)
  refine wpM_nil ?_
  intro w4 he4 hF
  have hpo : PtrsO (w2.heap.size + 1) w4 v18 w2.heap.size (fieldsOf k) := hF 18
  clear hF
  have hU : ∀ wx : World, wx.heap[w.heap.size + 1]? = some (.cells cs 9 (0, 0)) → Strs wx (.slice (if min 4 (s.length + 1) = 1 then some ⟨w.heap.size + 1, 0, none⟩ else some ⟨w.heap.size + 1, 1, none⟩) r.length (min 4 (s.length + 1) - 1)) r := fun wx hx => by
    by_cases h1 : min 4 (s.length + 1) = 1
    · rw [if_pos h1]
      have hr : r = [] := List.eq_nil_of_length_eq_zero (by omega)
      subst hr
      exact strs_block hx (fun j u hj => by simp at hj) (by simp) (by unfold maxLen; omega)
    · rw [if_neg h1]
      exact strs_block hx ht (by omega) (by unfold maxLen; omega)
  generalize (if min 4 (s.length + 1) = 1 then some (⟨w.heap.size + 1, 0, none⟩ : Addr) else some ⟨w.heap.size + 1, 1, none⟩) = ad at hU ⊢
  have m4 : Ext w w4 := (m2.alloc _).trans he4
  have b4 : w4.heap[w2.heap.size]? = some (.cells #[I k, I 0, I 0, I 0] 23 (0, 0)) := block_ext he4
  have q4 : w4.heap[w.heap.size]? = some (.cells #[I 0, I 0, I 0, I 0] 23 (0, 0)) := block_of (block_of b0 ((Ext.refl w2).alloc _)) he4
  have g4 : w4.heap[w.heap.size + 1]? = some (.cells cs 9 (0, 0)) := block_of (block_of b1 ((Ext.refl w2).alloc _)) he4
  have kept : ∀ (j : Nat) (o : Obj) (wx : World), j < w2.heap.size → w4.heap[j]? = some o → w4.grownBy wx (some w2.heap.size) → wx.heap[j]? = some o := fun j o wx hj ho hg => by
    rw [hg.block j (Array.getElem?_eq_some_iff.1 ho).1 (fun e => by simp at e; omega)]; exact ho
  have hfill := fill_any v18 (.slice ad r.length (min 4 (s.length + 1) - 1)) w2.heap.size 23 #[I k, I 0, I 0, I 0] (fieldsOf k) r w4
    (fun wx hg => ⟨(hpo.grown (by omega) hg).ptrs, hU wx (kept _ _ wx (by omega) g4 hg), hv.ext (m4.grown hg (fun j hj => by simp at hj; have := m2.size; omega))⟩) b4 (fields_at k) hsh
  have done : ∀ wx, w4.grownBy wx (some w2.heap.size) → Ext w wx ∧ wx.heap[w.heap.size]? = some (.cells #[I 0, I 0, I 0, I 0] 23 (0, 0)) := fun wx hg =>
    ⟨m4.grown hg (fun j hj => by simp at hj; have := m2.size; omega), kept _ _ wx (by omega) q4 hg⟩
  clear hU hpo kept h0 b0 b1 b4 q4 g4 ht hc hsp hkk hsh
  have HS : Hid (w.heap.size + 1 < w2.heap.size) := s2
  clear s2
  cases hfo : fillOk (fieldsOf k) r with
  | false =>
    have HR : Hid (readW2 x r = (zeroCl, 2)) := read_form HK.out (by simpa using hkb) hfo
    have hfill2 : Calls Tryd.prog 19 #[v18, .slice ad r.length (min 4 (s.length + 1) - 1)] w4 fun e w' => e = .returned (.bool false) ∧ w4.grownBy w' (some w2.heap.size) := hfill.mono fun e w' ⟨he, hg, _⟩ => ⟨by rw [he, hfo], hg⟩
    clear hfill hfo
    go_wp2_with (go_at_call 19; refine hfill2.mono ?_; rintro e w5 ⟨rfl, hg⟩; obtain ⟨m5, q5⟩ := done w5 hg; obtain ⟨c0, c1, c2, c3, f0, f1, f2, f3⟩ := box4 q5)
    have hB := set4 q5 (I 0) (I 0) (I 0) (I 0)
    obtain ⟨d0, d1, d2, d3, -⟩ := box4 hB
    have hE := ext_set4 m5 (Nat.le_refl w.heap.size) (I 0) (I 0) (I 0) (I 0)
    clear c0 c1 c2 c3 f0 f1 f2 f3
    refine bodyPost_ret (by simp [results, Tryd.results6, go_sem, d0, d1, d2, d3]; rfl) rfl ?_
    rw [HR.out]
    exact ⟨rfl, hE⟩
  | true =>
    obtain ⟨ns, hn, hl, hna, hk6, hread⟩ := read_wrong HK.out (by simpa using hkb) hfo
    have hfill2 : Calls Tryd.prog 19 #[v18, .slice ad r.length (min 4 (s.length + 1) - 1)] w4 fun e w' => e = .returned (.bool true) ∧ w4.grownBy w' (some w2.heap.size) ∧
        w'.heap[w2.heap.size]? = some (.cells #[I (mkCl k ns).kind, I (mkCl k ns).name, I (mkCl k ns).other, I (mkCl k ns).n] 23 (0, 0)) := hfill.mono fun e w' ⟨he, hg, hb⟩ => ⟨by rw [he, hfo], hg, by
          have := hb ns hn hl
          rwa [puts_mk hk6 hna] at this⟩
    have hwr : ∀ wx, Gives Tryd.prog 21 #[.agg #[I (mkCl k ns).kind, I (mkCl k ns).name, I (mkCl k ns).other, I (mkCl k ns).n]] wx fun r _ => r = I (wrongCl (mkCl k ns)) := fun wx => mWrong_any _ _ _ _ wx
    clear hfill hfo hn hl hna hk6
    generalize mkCl k ns = c at *
    obtain ⟨ck, ca, co, cn⟩ := c
    simp only [] at hfill2 hwr
    generalize wrongCl ⟨ck, ca, co, cn⟩ = er at *
    have HR : Hid (readW2 x r = if er ≠ 0 then (zeroCl, er) else (⟨ck, ca, co, cn⟩, 0)) := hread
    clear hread
    by_cases he0 : er = 0
    case neg =>
      have HE : Hid (er ≠ 0) := he0
      have heb : (er == 0) = false := by simpa using he0
      clear he0
      go_wp2_with (first
        | (go_at_call 19; refine hfill2.mono ?_; rintro e w5 ⟨rfl, hg, hb⟩; obtain ⟨m5, q5⟩ := done w5 hg; obtain ⟨y0, y1, y2, y3, -⟩ := box4 hb)
        | (go_at_call 21; refine (hwr _).to ?_; rintro r6 w6 e6 rfl; obtain ⟨c0, c1, c2, c3, f0, f1, f2, f3⟩ := box4 (block_of q5 e6)))
      have hB := set4 (block_of q5 e6) (I 0) (I 0) (I 0) (I 0)
      obtain ⟨d0, d1, d2, d3, -⟩ := box4 hB
      have hE := ext_set4 (m5.trans e6) (Nat.le_refl w.heap.size) (I 0) (I 0) (I 0) (I 0)
      clear c0 c1 c2 c3 f0 f1 f2 f3
      refine bodyPost_ret (by simp [results, Tryd.results6, go_sem, d0, d1, d2, d3]; rfl) rfl ?_
      rw [HR.out, if_pos HE.out]
      exact ⟨rfl, hE⟩
    case pos =>
      subst he0
      go_wp2_with (first
        | (go_at_call 19; refine hfill2.mono ?_; rintro e w5 ⟨rfl, hg, hb⟩; obtain ⟨m5, q5⟩ := done w5 hg; obtain ⟨y0, y1, y2, y3, -⟩ := box4 hb)
        | (go_at_call 21; refine (hwr _).to ?_; rintro r6 w6 e6 rfl; obtain ⟨c0, c1, c2, c3, f0, f1, f2, f3⟩ := box4 (block_of q5 e6); obtain ⟨z0, z1, z2, z3, -⟩ := box4 (block_of hb e6)))
      have hB := set4 (block_of q5 e6) (I ck) (I ca) (I co) (I cn)
      obtain ⟨d0, d1, d2, d3, -⟩ := box4 hB
      have hE := ext_set4 (m5.trans e6) (Nat.le_refl w.heap.size) (I ck) (I ca) (I co) (I cn)
      clear c0 c1 c2 c3 f0 f1 f2 f3
      refine bodyPost_ret (by simp [results, Tryd.results6, go_sem, d0, d1, d2, d3]; rfl) rfl ?_
      rw [HR.out, if_neg (by simp)]
      exact ⟨rfl, hE⟩

theorem readCall_any (s : Bs) (hs : s.length ≤ 1000000000) (w : World) (hv : Vars w) : Calls Tryd.prog 6 #[S s] w fun e w' => e = .returned (.tuple #[A (readCl s).1, I (readCl s).2]) ∧ Ext w w' := by
  obtain ⟨x, r, hp⟩ := pieces_form s
  have hr : readCl s = readW2 x r := by
    rw [← readWs_four s]
    show readWs (pieces s) = _
    rw [hp]
    rfl
  rw [hr]
  by_cases hk : kindOf x = 0
  · have e : readW2 x r = (zeroCl, 1) := by unfold readW2; rw [if_pos hk]
    rw [e]
    exact readCall_kind s x r hp hs hk w
  · exact readCall_kinds s x r hp hs _ rfl hk w hv

end Go.Proofs.YtdmipnnfoolelabDoor

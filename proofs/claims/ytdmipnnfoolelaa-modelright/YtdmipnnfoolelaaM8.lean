/- Walks: which deed a call is, and doing it. -/
import Derived.Test.YtdmipnnfoolelaaM7
import Derived.Test.YtdmipnnfoolelaaMath3
namespace Go.Proofs.Ytdmipnnfoolelaa
open Go.RowKit Go.Mk

set_option maxHeartbeats 1000000 in
theorem deedOf_any (k a o n : Int) (w : World) (hc : wrongCl ⟨k, a, o, n⟩ = 0) : Calls Try.prog 41 #[.agg #[I k, I a, I o, I n]] w fun e w' => ∃ r, e = .returned r ∧ Ext w w' ∧ DeedP ⟨k, a, o, n⟩ r w' := by
  obtain ⟨hk, hn⟩ := wrongCl_zero hc
  have HN : Hid (k = 1 ∨ k = 4 → -1073741824 ≤ n ∧ n ≤ 1073741824) := hn
  clear hc hn
  have he0 : Ext w (w.alloc (.cells #[I k, I a, I o, I n] 38)) := (Ext.refl w).alloc _
  rcases hk with rfl | rfl | rfl | rfl | rfl | rfl
  · go_enter Try.func41, Try.ntmps41
    go_wp2_with fail
    refine (mkput_any a o n _).mono ?_
    rintro e w1 ⟨r, rfl, he, hd⟩
    go_wp2
    go_ret
    exact ⟨_, rfl, he0.trans he, hd⟩
  · go_enter Try.func41, Try.ntmps41
    go_wp2_with fail
    refine (mkthere_any ⟨2, a, o, n⟩ _ _ (turn_get a o n _) (fun l ha => by rw [doCl_get, if_pos ha])).mono ?_
    rintro e w1 ⟨r, rfl, he, hd⟩
    go_wp2
    go_ret
    exact ⟨_, rfl, he0.trans he, hd⟩
  · go_enter Try.func41, Try.ntmps41
    go_wp2_with fail
    refine (mkthere_any ⟨3, a, o, n⟩ _ _ (turn_drop a o n _) (fun l ha => by rw [doCl_drop, if_pos ha])).mono ?_
    rintro e w1 ⟨r, rfl, he, hd⟩
    go_wp2
    go_ret
    exact ⟨_, rfl, he0.trans he, hd⟩
  · have q1 : (w.alloc (.cells #[I 4, I a, I o, I n] 38)).cell? ⟨w.heap.size, 1, none⟩ = some (I a) := by simp
    have q3 : (w.alloc (.cells #[I 4, I a, I o, I n] 38)).cell? ⟨w.heap.size, 3, none⟩ = some (I n) := by simp
    have HQ1 : Hid _ := q1
    have HQ3 : Hid _ := q3
    clear q1 q3
    go_enter Try.func41, Try.ntmps41
    go_wp2_with fail
    refine wp_region_mono [none, none, none, none, some (.inr (TurnP ⟨4, a, o, n⟩)), some (.inr (DeedP ⟨4, a, o, n⟩)), none] (by kernel_rfl) (by kernel_rfl) ?_ ?_
    · exact ⟨trivial, trivial, trivial, trivial, monoTurn _, monoDeed _, trivial, trivial⟩
    iterate 1 (refine wpM_p (fun K hK => ?_); go_simp; refine hK _ ?_; clear hK K)
    refine wpM_q (I a) rfl (fun w' hw' => by have t1 := hw'.cell HQ1.out; go_simp) ?_
    iterate 1 (refine wpM_p (fun K hK => ?_); go_simp; refine hK _ ?_; clear hK K)
    refine wpM_q (I n) rfl (fun w' hw' => by have t1 := hw'.cell HQ3.out; go_simp) ?_
    refine wpM_l _ rfl (fun w' hw' _ => ?_) (fun v30 => ?_)
    · have hg := mkadd_any a o n w' (HN.out (by simp))
      unfold makes
      go_simp
      exact ⟨Ext.refl _, hg⟩
    refine wpM_l _ rfl (fun w' hw' hk => ?_) (fun v31 => ?_)
    · have h7 : TurnP ⟨4, a, o, n⟩ v30 w' := hk 30 (by decide)
      have hg := mkthere_any ⟨4, a, o, n⟩ v30 w' h7 (fun l ha => by rw [doCl_add, if_pos ha])
      clear hk h7
      unfold makes
      go_simp
      exact ⟨Ext.refl _, hg⟩
    iterate 1 (refine wpM_p (fun K hK => ?_); go_simp; refine hK _ ?_; clear hK K)
    refine wpM_nil ?_
    intro w2 he2 hF
    have hd : DeedP ⟨4, a, o, n⟩ v31 w2 := hF 31
    go_wp2
    go_ret
    exact ⟨_, rfl, he0.trans he2, hd⟩
  · go_enter Try.func41, Try.ntmps41
    go_wp2
    go_ret
    exact ⟨_, rfl, he0, deed_count a o n _⟩
  · have q1 : (w.alloc (.cells #[I 6, I a, I o, I n] 38)).cell? ⟨w.heap.size, 1, none⟩ = some (I a) := by simp
    have q3 : (w.alloc (.cells #[I 6, I a, I o, I n] 38)).cell? ⟨w.heap.size, 2, none⟩ = some (I o) := by simp
    have HQ1 : Hid _ := q1
    have HQ3 : Hid _ := q3
    clear q1 q3
    go_enter Try.func41, Try.ntmps41
    go_wp2_with fail
    refine wp_region_mono [none, none, none, none, some (.inr (TurnP ⟨6, a, o, n⟩)), some (.inr (DeedP ⟨6, a, o, n⟩)), none] (by kernel_rfl) (by kernel_rfl) ?_ ?_
    · exact ⟨trivial, trivial, trivial, trivial, monoTurn _, monoDeed _, trivial, trivial⟩
    iterate 1 (refine wpM_p (fun K hK => ?_); go_simp; refine hK _ ?_; clear hK K)
    refine wpM_q (I a) rfl (fun w' hw' => by have t1 := hw'.cell HQ1.out; go_simp) ?_
    iterate 1 (refine wpM_p (fun K hK => ?_); go_simp; refine hK _ ?_; clear hK K)
    refine wpM_q (I o) rfl (fun w' hw' => by have t1 := hw'.cell HQ3.out; go_simp) ?_
    refine wpM_l _ rfl (fun w' hw' _ => ?_) (fun v30 => ?_)
    · have hg := mkswap_any a o n w'
      unfold makes
      go_simp
      exact ⟨Ext.refl _, hg⟩
    refine wpM_l _ rfl (fun w' hw' hk => ?_) (fun v31 => ?_)
    · have h7 : TurnP ⟨6, a, o, n⟩ v30 w' := hk 38 (by decide)
      have hg := mkthere_any ⟨6, a, o, n⟩ v30 w' h7 (fun l ha => by rw [doCl_swap', if_pos ha])
      clear hk h7
      unfold makes
      go_simp
      exact ⟨Ext.refl _, hg⟩
    iterate 1 (refine wpM_p (fun K hK => ?_); go_simp; refine hK _ ?_; clear hK K)
    refine wpM_nil ?_
    intro w2 he2 hF
    have hd : DeedP ⟨6, a, o, n⟩ v31 w2 := hF 39
    go_wp2
    go_ret
    exact ⟨_, rfl, he0.trans he2, hd⟩

/-- What a call of Do hands back. -/
def Does (base : Nat) (l : List (Int × Int)) (c : Cl) (r : Value) (w : World) : Prop := ∃ u, r = .tuple #[u, (doCl l c).2.val] ∧ Has base w u (doCl l c).1

set_option maxHeartbeats 400000 in
theorem DoW_any (v : Value) (l : List (Int × Int)) (k a o n : Int) (w : World) (hv : Writes w v l) (hl : Okw l) (hc : wrongCl ⟨k, a, o, n⟩ = 0) : Calls Try.prog 24 #[v, .agg #[I k, I a, I o, I n]] w fun e w' => ∃ r, e = .returned r ∧ Ext w w' ∧ Does w.heap.size l ⟨k, a, o, n⟩ r w' := by
  have he0 : Ext w ((w.alloc (.cells #[I k, I a, I o, I n] 38)).alloc (.cells #[I 0, I 0] 43)) := ((Ext.refl w).alloc _).alloc _
  have hbx : ((w.alloc (.cells #[I k, I a, I o, I n] 38)).alloc (.cells #[I 0, I 0] 43)).heap[w.heap.size + 1]? = some (.cells #[I 0, I 0] 43) := by
    have := heap_alloc_new (w.alloc (.cells #[I k, I a, I o, I n] 38)) (.cells #[I 0, I 0] 43)
    simpa using this
  have HBX : Hid _ := hbx
  clear hbx
  go_enter Try.func24, Try.ntmps24
  go_wp2_with fail
  refine (deedOf_any k a o n _ hc).mono ?_
  rintro e w1 ⟨r, rfl, e1, F, caps, rfl, hE, hF⟩
  have HF : Hid _ := hF
  clear hF
  unfold Enters at hE
  have hw1 : Ext w w1 := he0.trans e1
  go_wp2_with fail
  refine (mown_any v l w1 (hv.ext hw1) (by have := hl.len; omega)).mono ?_
  rintro e w2 ⟨rfl, ho, e2⟩
  have hs1 : w.heap.size + 1 < w1.heap.size := by have := e1.size; simp at this; omega
  generalize hgs : w1.heap.size = g at *
  go_wp2_with fail
  refine (HF.out l g w2 e2 ho hl).mono ?_
  rintro e w3 ⟨u, x, m, lo, rfl, hov, hu, hgr⟩
  have hb3 : w3.heap[w.heap.size + 1]? = some (.cells #[I 0, I 0] 43) := by
    rw [hgr.block (w.heap.size + 1) (by have := e2.size; omega) (fun e => by have e2 : w.heap.size + 1 = g := Option.some.inj e; omega), e2.block _ (by omega), e1.block _ (by simp)]
    exact HBX.out
  obtain ⟨c0, c1, f0, f1⟩ := box_of hb3 (Ext.refl w3)
  have hw3 : Ext w w3 := (hw1.trans e2).grown hgr (fun k hk => by cases hk; omega)
  clear hE
  generalize hD : doCl l ⟨k, a, o, n⟩ = D at *
  have HD : Hid (doCl l ⟨k, a, o, n⟩ = D) := hD
  clear hD
  obtain ⟨D1, D2, D3⟩ := D
  go_wp2
  try simp only [Exit.inBlock, Exit.then]
  refine bodyPost_ret (by simp [results, Try.results24, go_sem, c0, c1]; rfl) rfl ?_
  have hne := own_ne hov hb3 (by decide)
  refine ⟨_, rfl, (hw3.setCell (Nat.le_succ _) _).setCell (Nat.le_succ _) _, u, ?_, ?_⟩
  · rw [HD.out]
  · rw [HD.out]; exact Has.low ⟨x, m, lo, owns_setCell (owns_setCell hov hne _ _) hne _ _, hu⟩ (by omega)

theorem Do_any (v : Value) (l : List (Int × Int)) (k a o n : Int) (w : World) (hv : Writes w v l) (hl : Okn l) (hc : wrongCl ⟨k, a, o, n⟩ = 0) : Calls Try.prog 24 #[v, .agg #[I k, I a, I o, I n]] w fun e w' => ∃ r, e = .returned r ∧ Ext w w' ∧ Does w.heap.size l ⟨k, a, o, n⟩ r w' := DoW_any v l k a o n w hv hl.w hc

end Go.Proofs.Ytdmipnnfoolelaa

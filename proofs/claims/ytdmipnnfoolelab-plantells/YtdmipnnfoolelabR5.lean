/- Walks: what the document says a call does: adding, changing. -/
import Derived.Test.YtdmipnnfoolelabR2
namespace Go.Proofs.Ytdmipnnfoolelab
open Go.RowKit Go.Mk

set_option maxRecDepth 100000 in
set_option maxHeartbeats 2000000 in
theorem wDo_add (v : Value) (l : List (Int × Int)) (a o n : Int) (w : World) (hv : Writes w v l) (hl : Okw l) (ha : at1 l a < l.length) (hn : -1073741824 ≤ n ∧ n ≤ 1073741824) :
    Calls Try.prog 13 #[v, .agg #[I 4, I a, I o, I n]] w fun e w' => DoesW w v l ⟨4, a, o, n⟩ e w' ∧ Ext w w' := by
  have hmf := func_mk
  have hl5 := hl.len
  obtain ⟨ao, cap, rfl, g1, g2, g3⟩ := hv.form
  unfold maxLen at g2
  have H3 : Hid _ := g3
  clear g3
  go_enter Try.func13, Try.ntmps13
  go_wp2_with fail
  refine Calls.exts (rget_any _ l a _ (hv.ext ((((Ext.refl w).alloc _).alloc _).alloc _))) (fun w1 e1 => ?_)
  obtain ⟨s0, q0, q1, q2, q3, x0, x1, hbx, hw1⟩ := rbox w1 e1
  obtain ⟨_, _, f0, f1⟩ := box_of hbx (Ext.refl w1)
  have hv1 := hv.ext hw1
  have hbs : w.heap.size + 1 + 1 < w1.heap.size := (Array.getElem?_eq_some_iff.1 hbx).1
  have hz := isR_hit ha
  have hz2 := getR_hit ha
  rw [hz, hz2]
  clear hz hz2
  have hm := (hl.at ha).2.2
  have hm1 : -1073741824 ≤ num l (at1 l a) := hm.1
  have hm2 : num l (at1 l a) ≤ 1073741824 := hm.2
  clear hm
  obtain ⟨n1, n2⟩ := hn
  generalize hM : num l (at1 l a) = m at *
  have HM : Hid (num l (at1 l a) = m) := hM
  clear hM
  by_cases hs : -1073741824 ≤ m + n ∧ m + n ≤ 1073741824
  case neg =>
    have hs2 : m + n < -1073741824 ∨ 1073741824 < m + n := by omega
    have HNS : Hid (¬ (-1073741824 ≤ m + n ∧ m + n ≤ 1073741824)) := hs
    clear hs
    rcases hs2 with hs2 | hs2
    · go_wp2_with fail
      refine Calls.exts (rno_any _ _ _ _ s0 (cell_lt s0)) (fun w2 e2 => ?_)
      obtain ⟨x0, x1, f0, f1⟩ := box_of hbx e2
      have m2 := hw1.trans e2
      go_wp2
      try simp only [Exit.inBlock, Exit.then]
      refine bodyPost_ret (by simp [results, Try.results13, go_sem, x0, x1]; rfl) rfl ?_
      exact ⟨doesW_same (r := ⟨3, 0⟩) (by rw [doR_add, if_neg (by simpa using ha), HM.out, if_pos HNS.out]) hv ((m2.setCell (by simp only []; omega) _).setCell (by simp only []; omega) _), (m2.setCell (by simp only []; omega) _).setCell (by simp only []; omega) _⟩
    · go_wp2_with fail
      refine Calls.exts (rno_any _ _ _ _ s0 (cell_lt s0)) (fun w2 e2 => ?_)
      obtain ⟨x0, x1, f0, f1⟩ := box_of hbx e2
      have m2 := hw1.trans e2
      go_wp2
      try simp only [Exit.inBlock, Exit.then]
      refine bodyPost_ret (by simp [results, Try.results13, go_sem, x0, x1]; rfl) rfl ?_
      exact ⟨doesW_same (r := ⟨3, 0⟩) (by rw [doR_add, if_neg (by simpa using ha), HM.out, if_pos HNS.out]) hv ((m2.setCell (by simp only []; omega) _).setCell (by simp only []; omega) _), (m2.setCell (by simp only []; omega) _).setCell (by simp only []; omega) _⟩
  obtain ⟨s1, s2⟩ := hs
  have hsum : IntKind.i64.wrap (m + n) = m + n := by rw [IntKind.wrap_i64]; omega
  have HSET : Hid (setX l a (m + n) = setR l a (m + n)) := setX_hit ha
  go_wp2_with fail
  refine wp_region_mono_tail 14 [none, none, none, none, none, none, none, some (.inr fun r w' => Has w1.heap.size w' r (setR l a (m + n))), none, none, none, none, none, none] (by kernel_rfl) (by kernel_rfl) ?_ ?_
  · exact ⟨trivial, trivial, trivial, trivial, trivial, trivial, trivial, monoHas _ _, trivial, trivial, trivial, trivial, trivial, trivial, trivial⟩
  refine wpM_q (.slice ao l.length cap) rfl (fun w' hw' => by have := hw'.cell s0; go_simp) ?_
  iterate 1 (refine wpM_p (fun K hK => ?_); go_simp; refine hK _ ?_; clear hK K)
  refine wpM_q (I a) rfl (fun w' hw' => by have := hw'.cell q1; go_simp) ?_
  iterate 2 (refine wpM_p (fun K hK => ?_); go_simp; refine hK _ ?_; clear hK K)
  refine wpM_q (I n) rfl (fun w' hw' => by have := hw'.cell q3; go_simp) ?_
  iterate 1 (refine wpM_p (fun K hK => ?_); go_simp; refine hK _ ?_; clear hK K)
  refine wpM_l _ rfl (fun w' hw' _ => ?_) (fun v134 => ?_)
  · have hg : Gives Try.prog 23 #[.slice ao l.length cap, I a, I (m + n)] w' (fun r w'' => Has w1.heap.size w'' r (setR l a (m + n))) :=
      Gives.mono (rset_any _ l a (m + n) w' (hv1.ext hw') (by omega)) (fun r w'' _ h => by rw [HSET.out] at h; exact h.low hw'.size)
    unfold makes
    go_simp
    exact ⟨Ext.refl _, hg⟩
  iterate 2 (refine wpM_p (fun K hK => ?_); go_simp; refine hK _ ?_; clear hK K)
  refine wpM_q (I n) rfl (fun w' hw' => by have := hw'.cell q3; go_simp) ?_
  iterate 3 (refine wpM_p (fun K hK => ?_); go_simp; refine hK _ ?_; clear hK K)
  refine wpM_nil ?_
  intro w2 he2 hF
  have hr2 : Has w1.heap.size w2 v134 (setR l a (m + n)) := hF 134
  clear hF
  obtain ⟨x0, x1, f0, f1⟩ := box_of hbx he2
  have m2 := hw1.trans he2
  go_wp2
  try simp only [Exit.inBlock, Exit.then]
  refine bodyPost_ret (by simp [results, Try.results13, go_sem, x0, x1]; rfl) rfl ?_
  exact ⟨doesW_new (r := ⟨0, m + n⟩) (by rw [doR_add, if_neg (by simpa using ha), HM.out, if_neg (by simp; omega)]) ((hr2.set hbs _ _).set hbs _ _) hw1.size, (m2.setCell (by simp only []; omega) _).setCell (by simp only []; omega) _⟩

end Go.Proofs.Ytdmipnnfoolelab

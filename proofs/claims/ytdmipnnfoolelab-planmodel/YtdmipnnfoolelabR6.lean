/- Walks: what the document says a call does: changing. -/
import Derived.Test.YtdmipnnfoolelabR5
namespace Go.Proofs.Ytdmipnnfoolelab
open Go.RowKit Go.Mk

set_option maxRecDepth 100000 in
set_option maxHeartbeats 2000000 in
theorem wDo_swap (v : Value) (l : List (Int × Int)) (a o n : Int) (w : World) (hv : Writes w v l) (hl : Okw l) (ha : at1 l a < l.length) :
    Calls Try.prog 13 #[v, .agg #[I 6, I a, I o, I n]] w fun e w' => DoesW w v l ⟨6, a, o, n⟩ e w' ∧ Ext w w' := by
  have hmf := func_mk
  have hl5 := hl.len
  obtain ⟨ao, cap, rfl, g1, g2, g3⟩ := hv.form
  unfold maxLen at g2
  have H3 : Hid _ := g3
  clear g3
  go_enter Try.func13, Try.ntmps13
  go_wp2_with fail
  refine Calls.exts (rget_any _ l a _ (hv.ext ((((Ext.refl w).alloc _).alloc _).alloc _))) (fun w1 e1 => ?_)
  obtain ⟨s0, q0, q1, q2, q3, x0, x1, hbx, hw1⟩ := rbox w1 e1
  obtain ⟨_, _, f0, f1⟩ := box_of hbx (Ext.refl w1)
  have hv1 := hv.ext hw1
  have hbs : w.heap.size + 1 + 1 < w1.heap.size := (Array.getElem?_eq_some_iff.1 hbx).1
  have hz := isR_hit ha
  have hz2 := getR_hit ha
  rw [hz, hz2]
  clear hz hz2
  go_wp2_with fail
  refine Calls.exts (rget_any _ l o w1 hv1) (fun w2 e2 => ?_)
  replace s0 := e2.cell s0
  replace q0 := e2.cell q0
  replace q1 := e2.cell q1
  replace q2 := e2.cell q2
  replace q3 := e2.cell q3
  have hbx2 : w2.heap[w.heap.size + 1 + 1]? = some (.cells #[I 0, I 0] 30) := by rw [e2.block _ hbs]; exact hbx
  have hw2 := hw1.trans e2
  have hv2 := hv1.ext e2
  have hbs2 : w.heap.size + 1 + 1 < w2.heap.size := Nat.lt_of_lt_of_le hbs e2.size
  clear x0 x1 f0 f1 hv1 hbx hw1 hbs
  by_cases hb : at1 l o < l.length
  case neg =>
    rw [isR_none hb, getR_none hb]
    go_wp2_with fail
    refine Calls.exts (rno_any _ _ _ _ s0 (cell_lt s0)) (fun w3 e3 => ?_)
    obtain ⟨x0, x1, f0, f1⟩ := box_of hbx2 e3
    have m3 := hw2.trans e3
    go_wp2
    try simp only [Exit.inBlock, Exit.then]
    refine bodyPost_ret (by simp [results, Try.results13, go_sem, x0, x1]; rfl) rfl ?_
    exact ⟨doesW_same (r := ⟨6, 0⟩) (by rw [doR_swap', if_neg (by simpa using ha), if_pos hb]) hv ((m3.setCell (by simp only []; omega) _).setCell (by simp only []; omega) _), (m3.setCell (by simp only []; omega) _).setCell (by simp only []; omega) _⟩
  rw [isR_hit hb, getR_hit hb]
  have hm := (hl.at ha).2.2
  have hm' := (hl.at hb).2.2
  have HS1 : Hid (setX l a (num l (at1 l o)) = setR l a (num l (at1 l o))) := setX_hit ha
  have HS2 : Hid (setX (setR l a (num l (at1 l o))) o (num l (at1 l a)) = setR (setR l a (num l (at1 l o))) o (num l (at1 l a))) := setX_hit (by rw [at1_setR, length_setR]; exact hb)
  have HD : Hid (doR l ⟨6, a, o, n⟩ = (setR (setR l a (num l (at1 l o))) o (num l (at1 l a)), ⟨0, num l (at1 l o)⟩)) := by
    unfold Hid
    rw [doR_swap', if_neg (by simpa using ha), if_neg (by simpa using hb)]
  have hlp : (setR l a (num l (at1 l o))).length ≤ 5 := by rw [length_setR]; exact hl5
  clear hm hm'
  generalize setR (setR l a (num l (at1 l o))) o (num l (at1 l a)) = L2 at *
  generalize setR l a (num l (at1 l o)) = L1 at *
  generalize num l (at1 l a) = m at *
  generalize num l (at1 l o) = m' at *
  go_wp2_with fail
  refine wp_region_mono_tail 12 [none, none, none, none, some (.inr fun r w' => Writes w' r L1), none, none, none, some (.inr fun r w' => Has w2.heap.size w' r L2), none, none, none] (by kernel_rfl) (by kernel_rfl) ?_ ?_
  · exact ⟨trivial, trivial, trivial, trivial, monoWrites _, trivial, trivial, trivial, monoHas _ _, trivial, trivial, trivial, trivial⟩
  refine wpM_q (.slice ao l.length cap) rfl (fun w' hw' => by have := hw'.cell s0; go_simp) ?_
  iterate 1 (refine wpM_p (fun K hK => ?_); go_simp; refine hK _ ?_; clear hK K)
  refine wpM_q (I a) rfl (fun w' hw' => by have := hw'.cell q1; go_simp) ?_
  iterate 1 (refine wpM_p (fun K hK => ?_); go_simp; refine hK _ ?_; clear hK K)
  refine wpM_l _ rfl (fun w' hw' _ => ?_) (fun v157 => ?_)
  · have hg : Gives Try.prog 23 #[.slice ao l.length cap, I a, I m'] w' (fun r w'' => Writes w'' r L1) :=
      Gives.mono (rset_any _ l a m' w' (hv2.ext hw') (by omega)) (fun r w'' _ h => by rw [HS1.out] at h; exact h.writes)
    unfold makes
    go_simp
    exact ⟨Ext.refl _, hg⟩
  iterate 1 (refine wpM_p (fun K hK => ?_); go_simp; refine hK _ ?_; clear hK K)
  refine wpM_q (I o) rfl (fun w' hw' => by have := hw'.cell q2; go_simp) ?_
  iterate 1 (refine wpM_p (fun K hK => ?_); go_simp; refine hK _ ?_; clear hK K)
  refine wpM_l _ rfl (fun w' hw' hk => ?_) (fun v161 => ?_)
  · have h7 : Writes w' v157 L1 := hk 157 (by decide)
    have hg : Gives Try.prog 23 #[v157, I o, I m] w' (fun r w'' => Has w2.heap.size w'' r L2) :=
      Gives.mono (rset_any _ L1 o m w' h7 (by omega)) (fun r w'' _ h => by rw [HS2.out] at h; exact h.low hw'.size)
    clear hk h7
    unfold makes
    go_simp
    exact ⟨Ext.refl _, hg⟩
  iterate 3 (refine wpM_p (fun K hK => ?_); go_simp; refine hK _ ?_; clear hK K)
  refine wpM_nil ?_
  intro w3 he3 hF
  have hr2 : Has w2.heap.size w3 v161 L2 := hF 161
  clear hF
  obtain ⟨x0, x1, f0, f1⟩ := box_of hbx2 he3
  have m3 := hw2.trans he3
  go_wp2
  try simp only [Exit.inBlock, Exit.then]
  refine bodyPost_ret (by simp [results, Try.results13, go_sem, x0, x1]; rfl) rfl ?_
  exact ⟨doesW_new (r := ⟨0, m'⟩) HD.out ((hr2.set hbs2 _ _).set hbs2 _ _) hw2.size, (m3.setCell (by simp only []; omega) _).setCell (by simp only []; omega) _⟩

end Go.Proofs.Ytdmipnnfoolelab

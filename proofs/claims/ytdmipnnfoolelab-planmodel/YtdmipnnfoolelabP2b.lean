/- Walks: calls as writes: what all of them come to. -/
import Derived.Test.YtdmipnnfoolelabP2
namespace Go.Proofs.Ytdmipnnfoolelab
open Go.RowKit Go.Mk

theorem pdrop_at {l : List (Int × Int)} {i : Nat} (h : i + 1 < l.length) : ((l.set i (l.getD (l.length - 1) (0, 0))).take (l.length - 1)).getD i (0, 0) = l.getD (l.length - 1) (0, 0) := by
  have h1 : i < l.length - 1 := by omega
  have h2 : i < l.length := by omega
  simp [List.getD_eq_getElem?_getD, h1]

theorem gives_list {f : FuncId} {args : Array Value} {w : World} {b : Nat} {l m : List (Int × Int)} (h : Gives Try.prog f args w fun r w' => Has b w' r l) (e : l = m) : Gives Try.prog f args w fun r w' => Has b w' r m := e ▸ h

/-- Where a name stands, as Find tells it. -/
def atI (l : List (Int × Int)) (a : Int) : Int := if at1 l a < l.length then (at1 l a : Int) else -1

theorem pwrites_plan (v : Value) (l : List (Int × Int)) (k a o n : Int) (w : World) (hc : wrongCl ⟨k, a, o, n⟩ = 0) (hl : Okw l) (he0 : (doCl l ⟨k, a, o, n⟩).2.err = 0) (hv : Writes w v (doCl l ⟨k, a, o, n⟩).1) :
    Gives Try.prog 17 #[v, I k, I (atI l a), I (atI l o)] w fun r w' => Has w.heap.size w' r (planX l ⟨k, a, o, n⟩) := by
  have h5 := len_do (c := ⟨k, a, o, n⟩) hl.len
  have hl5 := hl.len
  obtain ⟨hk, _⟩ := wrongCl_zero hc
  clear hc
  rcases hk with rfl | rfl | rfl | rfl | rfl | rfl
  · rw [doCl_put] at he0 hv h5
    by_cases ha : at1 l a < l.length
    · rw [if_pos ha] at hv h5
      rw [show atI l a = (at1 l a : Int) from if_pos ha]
      refine gives_list (pwrites_num 1 (.inl rfl) v _ (at1 l a) _ w hv (by rw [length_put1]; exact ha) h5) ?_
      rw [getD_put1 _ _ _ _ ha, if_pos rfl]
      simp [planX, ha]
    · by_cases h6 : 5 ≤ l.length
      · rw [if_neg ha, if_pos h6] at he0
        exact absurd he0 (by simp)
      · rw [if_neg ha, if_neg h6] at hv h5
        rw [show atI l a = -1 from if_neg ha]
        refine gives_list (pwrites_new v _ _ w hv (by simp) h5) ?_
        simp [planX, ha]
  · rw [show planX l ⟨2, a, o, n⟩ = [] by simp [planX]]
    exact pwrites_none 2 (.inl rfl) v _ _ w
  · rw [doCl_drop] at he0 hv h5
    by_cases ha : at1 l a < l.length
    · rw [if_neg (by simpa using ha)] at hv h5
      rw [show atI l a = (at1 l a : Int) from if_pos ha]
      have hlen : ((l.set (at1 l a) (l.getD (l.length - 1) (0, 0))).take (l.length - 1)).length = l.length - 1 := by simp
      by_cases hm : at1 l a + 1 < l.length
      · refine gives_list (pwrites_drop v _ (at1 l a) _ w hv (by rw [hlen]; omega) h5) ?_
        rw [pdrop_at hm, hlen]
        simp only [planX, hm, if_true, if_neg (show ¬ (3 : Int) = 1 by decide)]
        rw [show ((l.length - 1 : Nat) : Int) = (l.length : Int) - 1 by omega]
      · have := pwrites_last v _ (atI l o) w hv
        rw [hlen] at this
        rw [show (at1 l a : Int) = ((l.length - 1 : Nat) : Int) by omega]
        refine gives_list this ?_
        simp only [planX, hm, if_true, if_false, if_neg (show ¬ (3 : Int) = 1 by decide)]
        rw [show ((l.length - 1 : Nat) : Int) = (l.length : Int) - 1 by omega]
    · rw [if_pos ha] at he0
      exact absurd he0 (by simp)
  · rw [doCl_add] at he0 hv h5
    by_cases ha : at1 l a < l.length
    · rw [if_neg (by simpa using ha)] at he0 hv h5
      by_cases hr : -1073741824 ≤ num l (at1 l a) + n ∧ num l (at1 l a) + n ≤ 1073741824
      · rw [if_neg (by simpa using hr)] at hv h5
        rw [show atI l a = (at1 l a : Int) from if_pos ha]
        refine gives_list (pwrites_num 4 (.inr rfl) v _ (at1 l a) _ w hv (by rw [length_put1]; exact ha) h5) ?_
        rw [getD_put1 _ _ _ _ ha, if_pos rfl]
        simp [planX]
      · rw [if_pos hr] at he0
        exact absurd he0 (by simp)
    · rw [if_pos ha] at he0
      exact absurd he0 (by simp)
  · rw [show planX l ⟨5, a, o, n⟩ = [] by simp [planX]]
    exact pwrites_none 5 (.inr rfl) v _ _ w
  · rw [doCl_swap'] at he0 hv h5
    by_cases ha : at1 l a < l.length
    · rw [if_neg (by simpa using ha)] at he0 hv h5
      by_cases hb : at1 l o < l.length
      · rw [if_neg (by simpa using hb)] at hv
        rw [show atI l a = (at1 l a : Int) from if_pos ha, show atI l o = (at1 l o : Int) from if_pos hb]
        have hv2 : Writes w v (put1 (put1 l (at1 l a) (num l (at1 l o))) (at1 l o) (num l (at1 l a))) := hv
        have hb2 : at1 l o < (put1 l (at1 l a) (num l (at1 l o))).length := by rw [length_put1]; exact hb
        have hlen : (put1 (put1 l (at1 l a) (num l (at1 l o))) (at1 l o) (num l (at1 l a))).length = l.length := by rw [length_put1, length_put1]
        have p1 : ((put1 (put1 l (at1 l a) (num l (at1 l o))) (at1 l o) (num l (at1 l a))).getD (at1 l a) (0, 0)).2 = num l (at1 l o) := by
          rw [getD_put1 _ _ _ _ hb2]
          by_cases he : at1 l o = at1 l a
          · rw [if_pos he, he]
          · rw [if_neg he, getD_put1 _ _ _ _ ha, if_pos rfl]
        have p2 : ((put1 (put1 l (at1 l a) (num l (at1 l o))) (at1 l o) (num l (at1 l a))).getD (at1 l o) (0, 0)).2 = num l (at1 l a) := by
          rw [getD_put1 _ _ _ _ hb2, if_pos rfl]
        refine gives_list (pwrites_swap v _ (at1 l a) (at1 l o) w hv2 (by rw [hlen]; exact ha) (by rw [hlen]; exact hb) (by rw [hlen]; exact hl5)) ?_
        rw [p1, p2]
        simp [planX]
      · rw [if_pos hb] at he0
        exact absurd he0 (by simp)
    · rw [if_pos ha] at he0
      exact absurd he0 (by simp)

end Go.Proofs.Ytdmipnnfoolelab

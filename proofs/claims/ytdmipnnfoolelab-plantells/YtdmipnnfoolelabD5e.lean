/- What the document's Plan tells, whatever the call. -/
import Derived.Test.YtdmipnnfoolelabD5d
namespace Go.Proofs.Ytdmipnnfoolelab
open Go.RowKit Go.Mk

theorem plan_ok {l : List (Int × Int)} {c : Cl} (h : (doCl l c).2.err = 0) : planCl l c = planX l c := by
  unfold planCl
  rw [if_neg (by simp [h])]

theorem drop_at {l : List (Int × Int)} {i : Nat} (h : i + 1 < l.length) : ((l.set i (l.getD (l.length - 1) (0, 0))).take (l.length - 1)).getD i (0, 0) = l.getD (l.length - 1) (0, 0) := by
  have h1 : i < l.length - 1 := by omega
  have h2 : i < l.length := by omega
  simp [List.getD_eq_getElem?_getD, h1]

theorem rPlanW_any (v : Value) (xs : List Int) (k a o n : Int) (w : World) (hv : Ints w v xs) (hx : Weak xs) (hc : wrongCl ⟨k, a, o, n⟩ = 0) :
    Calls Try.prog 9 #[v, .agg #[I k, I a, I o, I n]] w fun e w' => PlansR w.heap.size (ofCells xs (xs.getD 0 0).toNat) ⟨k, a, o, n⟩ e w' ∧ Ext w w' := by
  by_cases he : (doCl (ofCells xs (xs.getD 0 0).toNat) ⟨k, a, o, n⟩).2.err ≠ 0
  · exact rPlan_err v xs k a o n w hv hx hc he
  have he0 : (doCl (ofCells xs (xs.getD 0 0).toNat) ⟨k, a, o, n⟩).2.err = 0 := by simpa using he
  have hP := plan_ok he0
  clear he
  generalize hL : ofCells xs (xs.getD 0 0).toNat = l at *
  obtain ⟨hk, _⟩ := wrongCl_zero hc
  rcases hk with rfl | rfl | rfl | rfl | rfl | rfl
  · rw [doCl_put] at he0
    by_cases ha : at1 l a < l.length
    · have hD : doR l ⟨1, a, o, n⟩ = (setR l a n, ⟨0, num l (at1 l a)⟩) := by rw [doR_put, if_pos ha]
      refine rPlan_put v xs a o n w hv hx hc l hL _ _ hD ha (length_setR _ _ _) n ?_ ?_
      · rw [getD_setR _ _ _ _ ha, if_pos (at1_hit ha)]
      · rw [hP]; simp [planX, ha]
    · by_cases h5 : 5 ≤ l.length
      · rw [if_neg ha, if_pos h5] at he0
        exact absurd he0 (by simp)
      · have hD : doR l ⟨1, a, o, n⟩ = (l ++ [(a, n)], ⟨0, 0⟩) := by rw [doR_put, if_neg ha, if_neg h5]
        refine rPlan_new v xs a o n w hv hx hc l hL _ _ hD ha (by omega) (by simp) ?_
        rw [hP]; simp [planX, ha]
  · rw [doCl_get] at he0
    by_cases ha : at1 l a < l.length
    · have hD : doR l ⟨2, a, o, n⟩ = (l, ⟨0, num l (at1 l a)⟩) := by rw [doR_get, if_neg (by simpa using ha)]
      exact rPlan_get v xs a o n w hv hx hc l hL _ _ hD rfl (by rw [hP]; simp [planX])
    · rw [if_pos ha] at he0
      exact absurd he0 (by simp)
  · rw [doCl_drop] at he0
    by_cases ha : at1 l a < l.length
    · have hD : doR l ⟨3, a, o, n⟩ = (dropR l a, ⟨0, num l (at1 l a)⟩) := by rw [doR_drop, if_neg (by simpa using ha)]
      have hlen : (dropR l a).length = l.length - 1 := length_dropR l a
      by_cases hm : at1 l a + 1 < l.length
      · refine rPlan_drop v xs a o n w hv hx hc l hL _ _ hD hm hlen (l.getD (l.length - 1) (0, 0)).1 (l.getD (l.length - 1) (0, 0)).2 (by rw [getD_dropR _ _ _ (by omega), if_pos (at1_hit ha)]) ?_
        rw [hP]; simp [planX, hm]
      · refine rPlan_dropLast v xs a o n w hv hx hc l hL _ _ hD (by omega) hlen ?_
        rw [hP]; simp [planX, hm]
    · rw [if_pos ha] at he0
      exact absurd he0 (by simp)
  · rw [doCl_add] at he0
    by_cases ha : at1 l a < l.length
    · rw [if_neg (by simpa using ha)] at he0
      by_cases hr : -1073741824 ≤ num l (at1 l a) + n ∧ num l (at1 l a) + n ≤ 1073741824
      · have hD : doR l ⟨4, a, o, n⟩ = (setR l a (num l (at1 l a) + n), ⟨0, num l (at1 l a) + n⟩) := by rw [doR_add, if_neg (by simpa using ha), if_neg (by simpa using hr)]
        refine rPlan_add v xs a o n w hv hx hc l hL _ _ hD ha (length_setR _ _ _) (num l (at1 l a) + n) ?_ ?_
        · rw [getD_setR _ _ _ _ ha, if_pos (at1_hit ha)]
        · rw [hP]; simp [planX]
      · rw [if_pos hr] at he0
        exact absurd he0 (by simp)
    · rw [if_pos ha] at he0
      exact absurd he0 (by simp)
  · exact rPlan_count v xs a o n w hv hx hc l hL _ _ (doR_count l a o n) rfl (by rw [hP]; simp [planX])
  · rw [doCl_swap'] at he0
    by_cases ha : at1 l a < l.length
    · rw [if_neg (by simpa using ha)] at he0
      by_cases hb : at1 l o < l.length
      · have hD : doR l ⟨6, a, o, n⟩ = (setR (setR l a (num l (at1 l o))) o (num l (at1 l a)), ⟨0, num l (at1 l o)⟩) := by rw [doR_swap', if_neg (by simpa using ha), if_neg (by simpa using hb)]
        refine rPlan_swap v xs a o n w hv hx hc l hL _ _ hD ha hb (by rw [length_setR, length_setR]) (num l (at1 l o)) (num l (at1 l a)) ?_ ?_ ?_
        · rw [getD_setR _ _ _ _ (by rw [length_setR]; exact ha), getD_setR _ _ _ _ ha, if_pos (at1_hit ha)]
          by_cases he : (l.getD (at1 l a) (0, 0)).1 = o
          · rw [if_pos he]
            rw [at1_hit ha] at he
            rw [he]
          · rw [if_neg he]
        · rw [getD_setR _ _ _ _ (by rw [length_setR]; exact hb), getD_setR _ _ _ _ hb]
          by_cases he : (l.getD (at1 l o) (0, 0)).1 = a
          · rw [if_pos he, if_pos (at1_hit hb)]
          · rw [if_neg he, if_pos (at1_hit hb)]
        · rw [hP]; simp [planX]
      · rw [if_pos hb] at he0
        exact absurd he0 (by simp)
    · rw [if_pos ha] at he0
      exact absurd he0 (by simp)

theorem rPlan_any (v : Value) (xs : List Int) (k a o n : Int) (w : World) (hv : Ints w v xs) (hx : wrongOf xs = 0) (hc : wrongCl ⟨k, a, o, n⟩ = 0) :
    Calls Try.prog 9 #[v, .agg #[I k, I a, I o, I n]] w fun e w' => PlansR w.heap.size (ofCells xs (xs.getD 0 0).toNat) ⟨k, a, o, n⟩ e w' ∧ Ext w w' := rPlanW_any v xs k a o n w hv (weak_of hx) hc

end Go.Proofs.Ytdmipnnfoolelab

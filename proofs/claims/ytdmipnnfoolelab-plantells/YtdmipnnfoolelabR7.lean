/- Walks: what the document says a call does, and all calls. -/
import Derived.Test.YtdmipnnfoolelabR3
import Derived.Test.YtdmipnnfoolelabR4
import Derived.Test.YtdmipnnfoolelabR6
namespace Go.Proofs.Ytdmipnnfoolelab
open Go.RowKit Go.Mk

theorem wDo_any (v : Value) (l : List (Int × Int)) (k a o n : Int) (w : World) (hv : Writes w v l) (hl : Okw l) (hc : wrongCl ⟨k, a, o, n⟩ = 0) :
    Calls Try.prog 13 #[v, .agg #[I k, I a, I o, I n]] w fun e w' => DoesW w v l ⟨k, a, o, n⟩ e w' ∧ Ext w w' := by
  obtain ⟨hk, hn⟩ := wrongCl_zero hc
  by_cases ha : at1 l a < l.length
  · rcases hk with rfl | rfl | rfl | rfl | rfl | rfl
    · exact wDo_put v l a o n w hv hl
    · exact wDo_get v l a o n w hv hl ha
    · exact wDo_drop v l a o n w hv hl ha
    · exact wDo_add v l a o n w hv hl ha (hn (.inr rfl))
    · exact wDo_count v l a o n w hv hl
    · exact wDo_swap v l a o n w hv hl ha
  · rcases hk with rfl | rfl | rfl | rfl | rfl | rfl
    · exact wDo_put v l a o n w hv hl
    · exact wDo_none v l 2 a o n w hv hl (by simp) ha
    · exact wDo_none v l 3 a o n w hv hl (by simp) ha
    · exact wDo_none v l 4 a o n w hv hl (by simp) ha
    · exact wDo_count v l a o n w hv hl
    · exact wDo_none v l 6 a o n w hv hl (by simp) ha

/-- What the document's Do hands back where names are unlike. -/
def DoesR (w : World) (v : Value) (l : List (Int × Int)) (c : Cl) (e : Ending) (w' : World) : Prop :=
  ∃ u, e = .returned (.tuple #[u, (doCl l c).2.val]) ∧ Writes w' u (doCl l c).1 ∧ ∀ base, base ≤ w.heap.size → Has base w v l → Has base w' u (doCl l c).1
theorem rDo_any (v : Value) (l : List (Int × Int)) (k a o n : Int) (w : World) (hv : Writes w v l) (hl : Okn l) (hc : wrongCl ⟨k, a, o, n⟩ = 0) :
    Calls Try.prog 13 #[v, .agg #[I k, I a, I o, I n]] w fun e w' => DoesR w v l ⟨k, a, o, n⟩ e w' ∧ Ext w w' :=
  (wDo_any v l k a o n w hv hl.w hc).mono fun e w' h => by
    have q := h
    unfold DoesW at q
    rw [doR_eq hl] at q
    exact q

end Go.Proofs.Ytdmipnnfoolelab

/- Walks: what the document says a call does, and all calls. -/
import Derived.Test.YtpkmbboaladcjabR3
import Derived.Test.YtpkmbboaladcjabR4
import Derived.Test.YtpkmbboaladcjabR6
namespace Go.Proofs.Ytpkmbboaladcjab
open Go.RowKit Go.Mk

theorem rDo_any (v : Value) (l : List (Int × Int)) (k a o n : Int) (w : World) (hv : Writes w v l) (hl : Okn l) (hc : wrongCl ⟨k, a, o, n⟩ = 0) :
    Calls Try.prog 13 #[v, .agg #[I k, I a, I o, I n]] w fun e w' => DoesR w v l ⟨k, a, o, n⟩ e w' ∧ Ext w w' := by
  obtain ⟨hk, hn⟩ := wrongCl_zero hc
  by_cases ha : at1 l a < l.length
  · rcases hk with rfl | rfl | rfl | rfl | rfl | rfl
    · exact rDo_put v l a o n w hv hl
    · exact rDo_get v l a o n w hv hl ha
    · exact rDo_drop v l a o n w hv hl ha
    · exact rDo_add v l a o n w hv hl ha (hn (.inr rfl))
    · exact rDo_count v l a o n w hv hl
    · exact rDo_swap v l a o n w hv hl ha
  · rcases hk with rfl | rfl | rfl | rfl | rfl | rfl
    · exact rDo_put v l a o n w hv hl
    · exact rDo_none v l 2 a o n w hv hl (by simp) ha
    · exact rDo_none v l 3 a o n w hv hl (by simp) ha
    · exact rDo_none v l 4 a o n w hv hl (by simp) ha
    · exact rDo_count v l a o n w hv hl
    · exact rDo_none v l 6 a o n w hv hl (by simp) ha

end Go.Proofs.Ytpkmbboaladcjab

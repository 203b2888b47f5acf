/- Walks: the laws of chapter 1. -/
import Derived.Test.YtdmipnnfoolelabW4
namespace Go.Proofs.Ytdmipnnfoolelab
open Go.RowKit Go.Mk

theorem ints_len {w : World} {v : Value} {xs : List Int} (h : Ints w v xs) : ∃ ao cap, v = .slice ao xs.length cap := by
  obtain ⟨ao, cap, h, _⟩ := h.form
  exact ⟨ao, cap, h⟩

end Go.Proofs.Ytdmipnnfoolelab

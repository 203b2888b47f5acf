/- What rows about texts take of the program's tables: the library's variables as the row lists them; bounds. -/
import Derived.Test.YtdmipnnfoolelabDoorT0
import Derived.Test.YtdmipnnfoolelabDoorCards
import Derived.Test.YtdmipnnfoolelabDoorTie
import Derived.Test.YtdmipnnfoolelabDoorFrame
import Derived.ProofKit
import Derived.OpenShut
import Derived.Lay
import Derived.Stop.LaidErr
import Derived.Deep.DeepHandedRow
import Derived.Deep.DeepWitnessRowRef
namespace Go.Proofs.YtdmipnnfoolelabDoor
open Go.ChangeShapes Go.WideShapes Go.ChangeAt Go.RowKit Go.Mk

/-- What the rows list (the same for each). -/
def listed : List (String × DataW Unit) := Rows.textTellsRow.laid

theorem Tryd.gPow : Tryd.prog.globalNamed "internal/strconv.uint64pow10" = some 3 := by kernel_rfl
theorem Tryd.gPowType : (Tryd.prog.globals[3]?).map (·.type) = some 105 := by kernel_rfl
theorem Tryd.cellsPow : Tryd.prog.cellsOf 105 = 20 := by kernel_rfl
theorem Tryd.cellsU64 : Tryd.prog.cellsOf 84 = 1 := by kernel_rfl
theorem Tryd.gRange : Tryd.prog.globalNamed "strconv.ErrRange" = some 1 := by kernel_rfl
theorem Tryd.gRangeType : (Tryd.prog.globals[1]?).map (·.type) = some 49 := by kernel_rfl
theorem Tryd.gSynt : Tryd.prog.globalNamed "strconv.ErrSyntax" = some 0 := by kernel_rfl
theorem Tryd.gSyntType : (Tryd.prog.globals[0]?).map (·.type) = some 49 := by kernel_rfl
theorem Tryd.cellsStr : Tryd.prog.cellsOf 9 = 1 := by kernel_rfl
theorem Tryd.cellsErrStr : Tryd.prog.cellsOf 103 = 1 := by kernel_rfl
theorem Tryd.star : "*" ++ "errors.errorString" = "*errors.errorString" := by decide
theorem Tryd.rowErr (u : TypeId) (h : Tryd.prog.typeName? 3 u = some "*errors.errorString") : u = 101 :=
  typeName_ptr_named (nm := "errors.errorString") (by rw [Tryd.star]; kernel_rfl) (by kernel_rfl) (by decide) u (by rw [Tryd.star]; exact h)

theorem pow_is : (Rows.laid_internal_strconv_uint64pow10 : DataW Unit) = Lib.tabData .u64 Lib.pow10Tab := by kernel_rfl

/-- The variables that are listed are as the library's contracts ask. -/
theorem vars_of {W : World} (h : laidMetH Tryd.prog listed W) : Vars W := by
  rw [MakeChecks.laidMetH_plain _ _ _ (by kernel_rfl)] at h
  have h2 : laidMet Tryd.prog ((Rows.textTellsRow.laid).drop 2) W := h.tail.tail
  have h3 : laidMet Tryd.prog (("internal/strconv.uint64pow10", Lib.tabData .u64 Lib.pow10Tab) :: (Rows.textTellsRow.laid).drop 3) W := by
    rw [← pow_is]
    exact h2
  have h4 : laidMet Tryd.prog ((Rows.textTellsRow.laid).drop 4) W := h2.tail.tail
  refine ⟨Lib.tabIs_of_head Tryd.gPow Tryd.gPowType Tryd.underlying105 Tryd.underlying84 Tryd.cellsU64 Tryd.cellsPow h3, ?_, ?_⟩
  · obtain ⟨a1, s1, hv1, -, -, -⟩ := laid_sentinel h4.tail Tryd.gSynt Tryd.gSyntType Tryd.underlying49 Tryd.rowErr Tryd.underlying101 Tryd.underlying103 rfl rfl Tryd.underlying9 Tryd.cellsErrStr Tryd.cellsStr
    exact ⟨_, _, hv1⟩
  · obtain ⟨a0, s0, hv0, -, -, -⟩ := laid_sentinel h4 Tryd.gRange Tryd.gRangeType Tryd.underlying49 Tryd.rowErr Tryd.underlying101 Tryd.underlying103 rfl rfl Tryd.underlying9 Tryd.cellsErrStr Tryd.cellsStr
    exact ⟨_, _, hv0⟩

/-- A world for the witness. -/
theorem listed_met (os : Os) (args : Array Value) : laidMetH Tryd.prog listed ((World.laidAll Tryd.prog os listed).forCall (fun _ _ => 0) ⟨#[], args, []⟩).memory := by
  rw [MakeChecks.laidMetH_plain _ _ _ (by kernel_rfl)]
  exact laidMet_laidAll _ (by kernel_rfl) (by kernel_rfl)

theorem bulk_le {H : Type} {d : DataW H} {l : List (DataW H)} (h : d ∈ l) : Rows.uptoBulk d ≤ Rows.uptoBulkAll l := by
  induction l with
  | nil => cases h
  | cons x r ih =>
    simp only [Rows.uptoBulkAll]
    cases List.mem_cons.1 h with
    | inl e => subst e; omega
    | inr e => have := ih e; omega
theorem bulk_str {H : Type} {bytes : List UInt8} {l : List (DataW H)} (h : DataW.lit (.string bytes) ∈ l) (hk : Rows.uptoSmall H l = true) : bytes.length ≤ 1048576 := by
  have h1 := bulk_le h
  have h2 : Rows.uptoBulkAll l ≤ 1048576 := of_decide_eq_true hk
  simp only [Rows.uptoBulk] at h1
  omega
theorem bulk_all {H : Type} (l : List (DataW H)) : l.length ≤ Rows.uptoBulkAll l := by
  induction l with
  | nil => simp [Rows.uptoBulkAll]
  | cons x r ih =>
    have : 1 ≤ Rows.uptoBulk x := by
      cases x with
      | lit l => cases l <;> simp [Rows.uptoBulk]
      | _ => simp [Rows.uptoBulk]
    simp only [Rows.uptoBulkAll, List.length_cons]; omega
theorem bulk_slice {H : Type} {elems spare l : List (DataW H)} (h : DataW.slice elems spare ∈ l) (hk : Rows.uptoSmall H l = true) : elems.length ≤ 1048576 := by
  have h1 := bulk_le h
  have h2 : Rows.uptoBulkAll l ≤ 1048576 := of_decide_eq_true hk
  have h3 := bulk_all elems
  simp only [Rows.uptoBulk] at h1
  omega

end Go.Proofs.YtdmipnnfoolelabDoor

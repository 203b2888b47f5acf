/- What package wire tells of any request, answer and bytes is what the document tells: what is wrong with them, their bytes, and what bytes are read as; for every request, answer and slice of bytes. -/
import Derived.Test.YtdmipnnfoolelacRows
import Derived.Test.YtdmipnnfoolelacFrame
import Derived.Test.YtdmipnnfoolelacFrame3
import Derived.Test.YtdmipnnfoolelacE13
namespace Go.Proofs.Ytdmipnnfoolelac
open Go.ChangeShapes Go.WideShapes Go.ChangeAt Go.RowKit Go.Mk

set_option maxRecDepth 100000 in
theorem wireTells_lifted (os : Os) (started : os.Started) (H : Type) (enc : TypeId × Value → H) :
    ReturnsInHanded {} Try.checked os 3 .any (Rows.wireTellsSpec.pre6 enc Try.prog Try.f3 Rows.wireTellsRow.domain false) (Rows.wireTellsSpec.post enc Try.prog Try.f3 false true false false) := by
  refine returnsInHanded_of_change_sized (C := Try.checked) Try.own started (by kernel_rfl) Try.func3
    (ChangeSpec.witness6 (enc := enc) (C := Try.checked) false ⟨#[], #[.agg #[.int .i64 0, .int .i64 0, .int .i64 0, .int .i64 0, .int .i64 0, .int .i64 0], .agg #[.int .i64 0, .int .i64 0, .int .i64 0, .int .i64 0], .slice none 0 0], []⟩ 8 (by kernel_rfl) (by kernel_rfl) (by kernel_rfl) (by kernel_rfl)) ?_
  intro W base args ds gs before hval0 hW _ hsz0 _
  have hsz : (DataW.weightsEach Try.prog (Try.f3.params.toList ++ Rows.wireTellsSpec.plain.varTypes Try.prog) (ds ++ gs)).all (· ≤ reachBytes) = true := hsz0
  clear hsz0
  have hval : ∀ (j : Nat) t v, Try.f3.params[j]? = some t → args[j]? = some v → Value.okWide Try.prog W .any base t v := hval0
  have hW' := hW
  obtain ⟨p, q, hA0, hV, rfl, _, _⟩ := hW
  have hA : DataW.TrodAll enc Try.prog W 0 (fun _ => true) true Try.f3.params.toList args.toList ds p := hA0
  rw [Try.params3] at hA hval hsz
  obtain ⟨v0, vs0, d0, ds0, p0, q0, hargs, rfl, rfl, h0, r_0⟩ := trodAll_cons hA
  obtain ⟨v1, vs1, d1, ds1, p1, q1, rfl, rfl, rfl, h1, r_1⟩ := trodAll_cons r_0
  obtain ⟨v2, vs2, d2, ds2, p2, q2, rfl, rfl, rfl, h2, r_2⟩ := trodAll_cons r_1
  obtain ⟨rfl, rfl, rfl⟩ := trodAll_nil r_2
  obtain rfl : args = #[v0, v1, v2] := by cases args; simp_all
  obtain ⟨rfl, rfl⟩ := trodVars_none hV
  obtain ⟨c0, t0, k0, a0, o0, n0, rfl⟩ := read_req Try.underlying25 Try.cellsRequest Try.underlying3 Try.underlying3 Try.underlying23 rfl rfl rfl Try.cellsInt Try.cellsInt Try.cellsCall Try.underlying3 Try.underlying3 Try.underlying3 Try.underlying3 rfl rfl rfl rfl Try.cellsInt Try.cellsInt Try.cellsInt Try.cellsInt (hval 0 25 v0 rfl rfl) h0
  obtain ⟨c1, t1, x1, n1, rfl⟩ := read_ans Try.underlying30 Try.cellsAnswer Try.underlying3 Try.underlying3 Try.underlying28 rfl rfl rfl Try.cellsInt Try.cellsInt Try.cellsReply Try.underlying26 Try.underlying3 rfl rfl Try.cellsErrno Try.cellsInt (hval 1 30 v1 rfl rfl) h1
  obtain ⟨x2, hx2, hs2⟩ := read_bytes Try.underlying31 Try.underlying5 Try.cellsByte (hval 2 31 v2 rfl rfl) h2
  clear hA0 hval0
  simp only [List.append_nil] at hW'
  have hlt : ∀ x ∈ p0 ++ p1 ++ p2, x.block < W.heap.size := fun x hx => by simpa using hW'.lt x (by simpa using hx)
  refine (WireTells_any v2 c0 t0 k0 a0 o0 n0 c1 t1 x1 n1 x2 W hx2 ).to fun r W' hb hr => ?_
  subst hr
  exact ⟨_, rfl, _, _, _, [], _, [], hW', trodAll_mk1 (shut_bool Try.underlying4 _), (trodAll_cons_mk (Below.trod Try.laidOut (by kernel_rfl) (of_decide_eq_true (by kernel_rfl)) h0 hb (fun x hx => hlt x (by simp [hx]))) (trodAll_cons_mk (Below.trod Try.laidOut (by kernel_rfl) (of_decide_eq_true (by kernel_rfl)) h1 hb (fun x hx => hlt x (by simp [hx]))) (trodAll_cons_mk (Below.trod Try.laidOut (by kernel_rfl) (of_decide_eq_true (by kernel_rfl)) h2 hb (fun x hx => hlt x (by simp [hx]))) trodAll_mk0))), rfl, Below.frame hb _, fun h => by cases h⟩

theorem wireTells_holds : Rows.WireTellsSaid :=
  OpenClaim.holds_of_wide 3 Try.f3 rfl rfl rfl rfl rfl rfl rfl ⟨rfl, rfl, rfl, rfl, rfl⟩ rfl rfl rfl rfl rfl (by kernel_rfl) Try.func3 (by kernel_rfl)
    (of_decide_eq_true (by kernel_rfl)) (by unfold Func.isWrapper; first | (rw [if_pos (by decide +kernel)]; kernel_rfl) | (rw [if_neg (by decide +kernel)]; exact ⟨rfl, rfl⟩))
    (fun os started H enc _ => wireTells_lifted os started H enc)

end Go.Proofs.Ytdmipnnfoolelac

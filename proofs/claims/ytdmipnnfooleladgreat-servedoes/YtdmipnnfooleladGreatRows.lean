/-
  No cell of these rows narrows 'for every input' (looked for: loops, veiled, ifaces, maps, wideKeys, modest, calm, conditions, laid).
  DERIVED. THE GIVEN ROWS OF THIS SEAT. 3 by the template 'for every input the law returns true; each argument reads behind the call as it read before'; 0 by the template 'total and deterministic' (their statements: YtdmipnnfooleladGreatTotals.lean).
  GIVEN WITH THE SEED: the statements are not yours to turn. If you find one false, say at which input.
  Laid BY PROGRAM, IN A SANDBOX (cutbox-rows.mjs): the forced cells as the released guide's own fill.sh prints them over the translation 8872d62bf1cb184d… (all of the seat's roots in one cut). By AI agents, Wed Nov 11 2026. No macro, syntax, notation, axiom, sorry.
-/
import Derived.Test.YtdmipnnfooleladGreatChecked
import GoSem.Claim
import GoSem.ClaimJoined
import GoSem.ClaimMapViews
import Derived.JoinedTies
import Derived.KernelRfl
namespace Go.Proofs.YtdmipnnfooleladGreat
/- THE CELL 'sum', in the pinned program and in every row, IS THE sha256 OF THE DUMP (.gsa) THAT YtdmipnnfooleladGreatProg.lean LOADS. Nothing in Lean hashes anything: it is a label: what it is worth is what the hold of that sum in a sandbox is worth. -/
noncomputable def Tryz.pinned : Pinned := { name := "ytdmipnnfooleladgreat", sum := "8872d62bf1cb184d5390c8623a7b1bec5deb5af075c4073925dd42ccf04046e6", checked := Tryz.checked }
namespace Rows
def none {H : Type} : Left H := { results := [], args := [] }

/-- 'mklaw7.ServeTells': WHATEVER THE INPUT: true; the input reads as it did. -/
def serveTellsSpec : ChangeSpec := { name := "serveTells", fn := fun _ => fun
  | [d1, d2, d3] => { results := [.lit (.bool true)], args := [d1, d2, d3] }
  | _ => none }
def serveTellsRow : OpenClaim := { program := "ytdmipnnfooleladgreat", sum := "8872d62bf1cb184d5390c8623a7b1bec5deb5af075c4073925dd42ccf04046e6", func := "mendkernel/mklaw7.ServeTells", spec := "serveTells", unfollowed := true, recurses := true, apart := false }
def ServeTellsSaid : Prop := serveTellsRow.holds Tryz.pinned (OpenSpec.ofChange serveTellsSpec)

/-- ITS FALSE NEIGHBOUR: 'it returns false'. Refute it at one input. -/
def serveTellsWrong : ChangeSpec := { name := "serveTells", fn := fun _ => fun
  | [d1, d2, d3] => { results := [.lit (.bool false)], args := [d1, d2, d3] }
  | _ => none }
def ServeTellsWrongFalsely : Prop := serveTellsRow.holds Tryz.pinned (OpenSpec.ofChange serveTellsWrong)

/-- 'mklaw7.ServeOnce': WHATEVER THE INPUT: true; the input reads as it did. -/
def serveOnceSpec : ChangeSpec := { name := "serveOnce", fn := fun _ => fun
  | [d1, d2, d3] => { results := [.lit (.bool true)], args := [d1, d2, d3] }
  | _ => none }
def serveOnceRow : OpenClaim := { program := "ytdmipnnfooleladgreat", sum := "8872d62bf1cb184d5390c8623a7b1bec5deb5af075c4073925dd42ccf04046e6", func := "mendkernel/mklaw7.ServeOnce", spec := "serveOnce", unfollowed := true, recurses := true, apart := false }
def ServeOnceSaid : Prop := serveOnceRow.holds Tryz.pinned (OpenSpec.ofChange serveOnceSpec)

/-- ITS FALSE NEIGHBOUR: 'it returns false'. Refute it at one input. -/
def serveOnceWrong : ChangeSpec := { name := "serveOnce", fn := fun _ => fun
  | [d1, d2, d3] => { results := [.lit (.bool false)], args := [d1, d2, d3] }
  | _ => none }
def ServeOnceWrongFalsely : Prop := serveOnceRow.holds Tryz.pinned (OpenSpec.ofChange serveOnceWrong)

/-- 'mklaw7.ServeDoes': WHATEVER THE INPUT: true; the input reads as it did. -/
def serveDoesSpec : ChangeSpec := { name := "serveDoes", fn := fun _ => fun
  | [d1, d2, d3] => { results := [.lit (.bool true)], args := [d1, d2, d3] }
  | _ => none }
def serveDoesRow : OpenClaim := { program := "ytdmipnnfooleladgreat", sum := "8872d62bf1cb184d5390c8623a7b1bec5deb5af075c4073925dd42ccf04046e6", func := "mendkernel/mklaw7.ServeDoes", spec := "serveDoes", unfollowed := true, recurses := true, apart := false }
def ServeDoesSaid : Prop := serveDoesRow.holds Tryz.pinned (OpenSpec.ofChange serveDoesSpec)

/-- ITS FALSE NEIGHBOUR: 'it returns false'. Refute it at one input. -/
def serveDoesWrong : ChangeSpec := { name := "serveDoes", fn := fun _ => fun
  | [d1, d2, d3] => { results := [.lit (.bool false)], args := [d1, d2, d3] }
  | _ => none }
def ServeDoesWrongFalsely : Prop := serveDoesRow.holds Tryz.pinned (OpenSpec.ofChange serveDoesWrong)

/- THE SECOND FORM. 'bulk': how many values and letters a reading holds, each counted each time it is reached (what is shared counts as often as it is met; a slice's spare places count too). A statement '..UptoSaid' is the law's where the arguments, and the package variables that the reading takes, are together of bulk at most 1048576: NARROWER than '..Said'. Prove '..Said' where nothing that the law and all that it calls make is longer than what came in: it says more and counts as full. Else prove '..UptoSaid'. A law counts once. -/
mutual
def uptoBulk {H : Type} : DataW H → Nat
  | .lit (.string bytes) => bytes.length + 1
  | .lit _ => 1
  | .nil => 1
  | .ptr d => uptoBulk d + 1
  | .slice elems spare => uptoBulkAll elems + uptoBulkAll spare + 1
  | .agg parts => uptoBulkAll parts + 1
  | .iface _ d => uptoBulk d + 1
  | .map entries => uptoBulkEntries entries + 1
  | .held _ => 1
def uptoBulkAll {H : Type} : List (DataW H) → Nat
  | [] => 0
  | d :: r => uptoBulk d + uptoBulkAll r
def uptoBulkEntries {H : Type} : List (Lit × DataW H) → Nat
  | [] => 0
  | x :: r => uptoBulkEntry x + uptoBulkEntries r
def uptoBulkEntry {H : Type} : Lit × DataW H → Nat
  | (.string bytes, d) => bytes.length + uptoBulk d + 1
  | (_, d) => uptoBulk d + 1
 end
def uptoSmall : (H : Type) → List (DataW H) → Bool := fun _ ds => decide (uptoBulkAll ds ≤ 1048576)
def OpenSpec.upto (s : _root_.Go.ChangeSpec) : _root_.Go.OpenSpec := { _root_.Go.OpenSpec.ofChange s with cond := some uptoSmall }

/-- 'mklaw7.ServeTells', WHERE WHAT IT READS IS OF BULK AT MOST 1048576: true; the input reads as it did. -/
def serveTellsUptoRow : OpenClaim := { program := "ytdmipnnfooleladgreat", sum := "8872d62bf1cb184d5390c8623a7b1bec5deb5af075c4073925dd42ccf04046e6", func := "mendkernel/mklaw7.ServeTells", spec := "serveTells", unfollowed := true, recurses := true, apart := false, narrowed := true }
def ServeTellsUptoSaid : Prop := serveTellsUptoRow.holds Tryz.pinned (OpenSpec.upto serveTellsSpec)

/-- 'mklaw7.ServeOnce', WHERE WHAT IT READS IS OF BULK AT MOST 1048576: true; the input reads as it did. -/
def serveOnceUptoRow : OpenClaim := { program := "ytdmipnnfooleladgreat", sum := "8872d62bf1cb184d5390c8623a7b1bec5deb5af075c4073925dd42ccf04046e6", func := "mendkernel/mklaw7.ServeOnce", spec := "serveOnce", unfollowed := true, recurses := true, apart := false, narrowed := true }
def ServeOnceUptoSaid : Prop := serveOnceUptoRow.holds Tryz.pinned (OpenSpec.upto serveOnceSpec)

/-- 'mklaw7.ServeDoes', WHERE WHAT IT READS IS OF BULK AT MOST 1048576: true; the input reads as it did. -/
def serveDoesUptoRow : OpenClaim := { program := "ytdmipnnfooleladgreat", sum := "8872d62bf1cb184d5390c8623a7b1bec5deb5af075c4073925dd42ccf04046e6", func := "mendkernel/mklaw7.ServeDoes", spec := "serveDoes", unfollowed := true, recurses := true, apart := false, narrowed := true }
def ServeDoesUptoSaid : Prop := serveDoesUptoRow.holds Tryz.pinned (OpenSpec.upto serveDoesSpec)

end Rows
end Go.Proofs.YtdmipnnfooleladGreat

/- Walks: texts are parsed. -/
import Derived.Test.YtdmipnnfoolelabDoorT6
namespace Go.Proofs.YtdmipnnfoolelabDoor
open Go.RowKit Go.Mk

theorem Tryd.infoCall : (Tryd.prog.info? 23).map (fun i => (i.zero, i.size, i.bytes)) = some (some (.agg #[.int .i64 0, .int .i64 0, .int .i64 0, .int .i64 0]), 4, 32) := by kernel_rfl

/-- What parsing comes to. -/
def Parsed (w : World) (r : List Cl × Int) (e : Ending) (w' : World) : Prop := ∃ v, e = .returned (.tuple #[v, I r.2]) ∧ Ext w w' ∧ Cls w' v r.1

theorem cls_one {w : World} (o : Obj) (c : Cl) : Row ((w.alloc o).alloc (.cells #[I c.kind, I c.name, I c.other, I c.n] 23)) 4 (.slice (some ⟨w.heap.size + 1, 0, none⟩) 1 1) 1 (cells4 [c]) := by
  have := World.ownsRow_lit (base := 0) (e := 23) (size := 4) (w.alloc o) #[I c.kind, I c.name, I c.other, I c.n] 1 (Nat.zero_le _) (by decide) rfl
  have h2 := Row.of_owns this
  simpa [cells4] using h2

def strLen (q : Value) : Nat := match q with
  | .string b => b.size
  | _ => 0
theorem strLen_S (l : Bs) : strLen (S l) = l.length := by simp [strLen, ByteArray.size]

set_option maxHeartbeats 4000000 in
theorem parse_any (s : Bs) (hs : s.length ≤ 100000000) (w : World) (hv : Vars w) : Calls Tryd.prog 8 #[S s] w fun e w' => Parsed w (parseCl s) e w' := by
  obtain ⟨i0, hi, hz0, hz1, hz2⟩ := info_parts Tryd.infoCall
  go_enter Tryd.func8, Tryd.ntmps8
  go_wp2
  go_loopw [0, 4] (fun q v wr => ∃ (r : Bs) (acc : List Cl), q = S r ∧ r.length + acc.length ≤ s.length ∧ wr.ownsRow w.heap.size 23 4 v acc.length (cells4 acc) ∧ parseCl s = parseFrom acc r ∧ Ext w wr) (fun q _ _ => strLen q)
  case atStart => exact ⟨s, [], rfl, by simp, World.ownsRow_nil _ _ _ _, parse_from s, Ext.refl w⟩
  case round =>
    obtain ⟨r, acc, rfl, hl, ho, hp, he⟩ := hrel
    have HP : Hid (parseCl s = parseFrom acc r) := hp
    clear hp
    have hvr := hv.ext he
    by_cases hr : r = []
    · subst hr
      have hpn := HP.out
      rw [from_nil] at hpn
      have HN := Lib.hid hpn
      clear hpn HP
      have hcl := cls_of_owns ho
      clear ho
      obtain ⟨ao, cap, rfl, x1, x2, -⟩ := hcl.form
      have HC := Lib.hid hcl
      unfold maxLen at x2
      clear hcl
      by_cases h8 : 8 < acc.length
      · have hz : (8 : Int) < (acc.length : Int) := by omega
        go_wp2
        go_ret2
        exact ⟨_, by rw [HN.out, if_pos h8]; rfl, he, by rw [HN.out, if_pos h8]; exact cls_nil _⟩
      · have hz : ¬ (8 : Int) < (acc.length : Int) := by omega
        go_wp2
        go_ret2
        exact ⟨_, by rw [HN.out, if_neg h8]; rfl, he, by rw [HN.out, if_neg h8]; exact HC.out⟩
    have hrb : (r == []) = false := by simpa using hr
    by_cases hlf : (10 : UInt8) ∈ r
    case neg =>
      have HN : Hid (parseCl s = ([], 8)) := by unfold Hid; rw [HP.out, from_end acc hr hlf]
      have hc := fun wx => cut_none r hlf wx
      clear hlf hr
      go_wp2_with (go_at_call 25; refine Calls.exts (hc _) ?_; intro w2 e2)
      go_ret2
      exact ⟨_, by rw [HN.out]; rfl, he.trans e2, by rw [HN.out]; exact cls_nil _⟩
    obtain ⟨l1, r1, hre, hl1⟩ := first_of hlf
    have hrl : r.length = l1.length + (r1.length + 1) := by rw [hre]; simp
    have hlen : l1.length + (r1.length + 1) + acc.length ≤ s.length := by rw [hrl] at hl; exact hl
    have hc : ∀ wx, Calls Tryd.prog 25 #[S r, S [10]] wx fun e w' => e = .returned (.tuple #[S l1, S r1, .bool true]) ∧ Ext wx w' := fun wx => by rw [hre]; exact cut_hit l1 r1 hl1 (by omega) wx
    have hp := HP.out
    rw [hre, from_cut acc hl1] at hp
    have hrc := fun wx hx => readCall_any l1 (by omega) wx hx
    have HRL := Lib.hid hrl
    clear hlf hr hl HP hl1 hre hrl
    generalize readCl l1 = q at hp hrc
    obtain ⟨c, er⟩ := q
    simp only [] at hp hrc
    by_cases h0 : er = 0
    case neg =>
      have heb : (er == 0) = false := by simpa using h0
      have HN : Hid (parseCl s = ([], er)) := by unfold Hid; rw [hp, if_pos h0]
      clear hp h0
      go_wp2_with (first
        | (go_at_call 25; refine Calls.exts (hc _) ?_; intro w2 e2)
        | (go_at_call 6; refine Calls.exts (hrc _ (hvr.ext e2)) ?_; intro w3 e3; refine stop_at ?_))
      unfold Hid
      clear hi hz0 hz1 hz2 hc hrc hlen hs hvr ho
      go_wp2
      go_ret2
      exact ⟨_, by rw [HN.out]; rfl, ((he.trans e2).trans e3).alloc _, by rw [HN.out]; exact cls_nil _⟩
    subst h0
    have HN : Hid (parseCl s = parseFrom (acc ++ [c]) r1) := by unfold Hid; rw [hp, if_neg (by simp)]
    clear hp
    go_wp2_with (first
      | (go_at_call 25; refine Calls.exts (hc _) ?_; intro w2 e2)
      | (go_at_call 6; refine Calls.exts (hrc _ (hvr.ext e2)) ?_; intro w3 e3)
      | (at_builtin; refine stop_at ?_))
    unfold Hid
    refine wpList_append_row _ rfl (.tmp 28) (.tmp 30) 27 rfl w.heap.size 23 i0 (.agg #[.int .i64 0, .int .i64 0, .int .i64 0, .int .i64 0]) 4 32 Tryd.underlying27 hi hz0 hz1 hz2 rfl (by decide) u4 acc.length (cells4 acc) rfl (((owns_ext ho (e2.trans e3)).alloc _).alloc _) _ rfl 1 (cells4 [c]) (cls_one _ c) (cells4_one [c]) (by omega) (by decide) (by have := he.size; have := e2.size; have := e3.size; simp; omega) ?_
    intro o' w4 ho4 hg4
    have he4 : Ext w w4 := ((((he.trans e2).trans e3).alloc _).alloc _).grown hg4 (fun j hj => (ho.lt j hj).1)
    have ho5 : w4.ownsRow w.heap.size 23 4 o' (acc ++ [c]).length (cells4 (acc ++ [c])) := by
      rw [cells4_append, List.length_append]
      exact ho4
    clear hg4 hi hz0 hz1 hz2 hc hrc ho ho4 hvr
    go_wp2
    go_roundw
    case rel => exact ⟨r1, acc ++ [c], rfl, by simp; omega, ho5, HN.out, he4⟩
    case measure =>
      rw [strLen_S, strLen_S, HRL.out]
      omega

end Go.Proofs.YtdmipnnfoolelabDoor

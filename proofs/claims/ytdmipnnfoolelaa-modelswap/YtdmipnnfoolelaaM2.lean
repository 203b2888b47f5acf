/- Walks: names: finding, telling, owning. -/
import Derived.Test.YtdmipnnfoolelaaM1
import Derived.Handy
namespace Go.Proofs.Ytdmipnnfoolelaa
open Go.RowKit Go.Mk

set_option maxHeartbeats 400000 in
theorem tell_any (v : Value) (n : Int) (w : World) :
    Calls Try.prog 57 #[v, I n] w fun e w' => e = .returned (.tuple #[v, .agg #[I 0, I n]]) ∧ Ext w w' := by
  go_enter Try.func57, Try.ntmps57
  go_wp2
  go_returns
  exact ⟨rfl, (Ext.refl w).alloc _⟩

set_option maxHeartbeats 400000 in
theorem refuse_any (v : Value) (n : Int) (w : World) :
    Calls Try.prog 56 #[v, I n] w fun e w' => e = .returned (.tuple #[v, .agg #[I n, I 0]]) ∧ Ext w w' := by
  go_enter Try.func56, Try.ntmps56
  go_wp2
  go_returns
  exact ⟨rfl, (Ext.refl w).alloc _⟩

/-- Where a name is; -1, if it is not there. -/
def find1 (l : List (Int × Int)) (name : Int) : Int := if at1 l name < l.length then (at1 l name : Int) else -1

set_option maxHeartbeats 400000 in
theorem find_any (v : Value) (l : List (Int × Int)) (name : Int) (w : World) (hv : Writes w v l) :
    Calls Try.prog 59 #[v, I name] w fun e w' => e = .returned (I (find1 l name)) ∧ Ext w w' := by
  obtain ⟨ao, cap, rfl, h1, h2, h3⟩ := hv.form
  unfold maxLen at h2
  clear hv
  go_enter Try.func59, Try.ntmps59
  go_wp2
  go_loopw [9] (fun i wr => ∃ k : Nat, k ≤ l.length ∧ i = I k ∧ (∀ j, j < k → (l.getD j (0, 0)).1 ≠ name) ∧ Ext w wr) (fun i _ => l.length - (intOf i).toNat)
  case atStart => exact ⟨0, by omega, rfl, fun j hj => by omega, Ext.refl w⟩
  case round =>
    obtain ⟨k, hk, rfl, hf, he⟩ := hrel
    have HF : Hid (∀ j, j < k → (l.getD j (0, 0)).1 ≠ name) := hf
    clear hf
    by_cases hlt : k < l.length
    · obtain ⟨b, off, rfl, hc1, hc2⟩ := h3 k hlt
      clear h3
      have hd1 := he.cell hc1
      have hd2 := he.cell hc2
      clear hc1 hc2
      generalize hp : l.getD k (0, 0) = p at hd1 hd2
      have HP : Hid (l.getD k (0, 0) = p) := hp
      clear hp
      obtain ⟨at_, n⟩ := p
      simp only [] at hd1 hd2
      by_cases hn : at_ = name
      · have hb : (at_ == name) = true := by simp [hn]
        have HN : Hid (at_ = name) := hn
        clear hn
        go_wp2
        go_ret
        refine ⟨ret_int ?_, he.alloc _⟩
        have := at1_of hlt (by rw [HP.out]; exact HN.out) HF.out
        unfold find1
        rw [this, if_pos hlt]
      · have hb : (at_ == name) = false := by simpa using hn
        have HN : Hid (at_ ≠ name) := hn
        clear hn
        go_wp2
        go_roundw
        case rel =>
          refine ⟨k + 1, by omega, by go_num, fun j hj => ?_, he.alloc _⟩
          by_cases hjk : j < k
          · exact HF.out j hjk
          · rw [show j = k by omega, HP.out]; exact HN.out
        case measure => simp [intOf]; omega
    · go_wp2
      go_ret
      refine ⟨ret_int ?_, he⟩
      have := at1_none (l := l) (name := name) (fun j hj => HF.out j (by omega))
      unfold find1
      rw [if_neg (by omega)]

/-- copy(dst, src) of rows of two cells each, both of one length, dst the call's own. -/
theorem run_copy_all2 {P : Program} (w : World) (t ty e : TypeId) (hu : P.underlying t = some (.slice e)) (hsz : (P.info? e).map (·.size) = some 2) (base g n : Nat) (v : Value) (cs old : List Value)
    (hown : w.ownsRow base e 2 (.slice (some ⟨g, 0, none⟩) n n) n old) (hv : Row w 2 v n cs) (h1 : ∀ u ∈ cs, u.oneCell' = true) :
    ∃ w', (Builtin.copy_ #[t, t] ty #[.slice (some ⟨g, 0, none⟩) n n, v]).run P w = .ok (goInt n) w' ∧ w'.ownsRow base e 2 (.slice (some ⟨g, 0, none⟩) n n) n cs ∧ w.grownBy w' (some g) := by
  obtain ⟨hl, ao, cap, rfl, hc, hm, _, hcell⟩ := hv
  obtain ⟨ho, ho'⟩ := hown
  rcases ho' with ⟨h, _⟩ | ⟨g', cap', cur, h, hb, hg, hn, hm', hs, ht⟩
  · simp at h
  simp only [Value.slice.injEq, Option.some.injEq, Addr.mk.injEq, and_true, true_and] at h
  obtain ⟨rfl, rfl⟩ := h
  cases hq : P.info? e with
  | none => simp [hq] at hsz
  | some i =>
  have hi : i.size = 2 := by simpa [hq] using hsz
  by_cases h0 : n = 0
  · subst h0
    have : cs = [] := List.eq_nil_of_length_eq_zero (by simpa using hl)
    subst this
    refine ⟨w, ?_, ⟨rfl, .inr ⟨g, 0, cur, rfl, hb, hg, Nat.le_refl _, hm', by simpa using hs, by simp⟩⟩, World.grownBy.refl _ _⟩
    cases ao <;> simp [Builtin.copy_, run_underlying hu, Builtin.lenOf, Builtin.firstCells, sizeOf, typeInfo, hq, storeCells, loadCells, loadCellsFrom]
  · have hne : cs ≠ [] := by intro e; subst e; simp at hl; omega
    obtain ⟨c0, hc0⟩ : ∃ c, cs[0]? = some c := by cases cs with | nil => exact absurd rfl hne | cons c _ => exact ⟨c, rfl⟩
    obtain ⟨b, off, rfl, _⟩ := hcell 0 c0 hc0
    have hload := run_loadCells_list (P := P) w ⟨b, off, none⟩ cs (fun j u hj => by
      obtain ⟨b', off', e', hc'⟩ := hcell j u hj
      simp only [Option.some.injEq, Addr.mk.injEq, and_true] at e'
      obtain ⟨rfl, rfl⟩ := e'
      rw [add_plain]; exact hc')
    have hst := run_storeCells_at P g 0 e cs 0 cur w hg (by simp; omega) h1
    rw [hl] at hload
    refine ⟨_, by simp [Builtin.copy_, run_underlying hu, Builtin.lenOf, Builtin.firstCells, sizeOf, typeInfo, hq, hi, hload, hst]; rfl, ⟨hl, .inr ⟨g, n, _, rfl, hb, setRow_heap w g cur _ e _ hg, Nat.le_refl _, hm', ?_, ?_⟩⟩, ⟨rfl, rfl, rfl, by simp [World.setRow], fun k _ hk => setRow_other w g k _ (fun e => hk (by simp [e]))⟩⟩
    · simp; omega
    · simp [← hl]

end Go.Proofs.Ytdmipnnfoolelaa

/- Walks: numbers are put in places. -/
import Derived.Test.YtdmipnnfoolelabDoorT1
namespace Go.Proofs.YtdmipnnfoolelabDoor
open Go.RowKit Go.Mk

theorem numsOf_snoc : ∀ (ws : List Bs) (x : Bs) (ns : List Int) (n : Int), numsOf ws = some ns → numOf x = some n → numsOf (ws ++ [x]) = some (ns ++ [n])
  | [], x, ns, n, h, hx => by
    simp [numsOf] at h
    subst h
    simp [numsOf, hx]
  | w :: ws, x, ns, n, h, hx => by
    rw [List.cons_append]
    unfold numsOf at h ⊢
    cases h1 : numOf w with
    | none => rw [h1] at h; cases h
    | some m =>
      rw [h1] at h
      cases h2 : numsOf ws with
      | none => rw [h2] at h; cases h
      | some ms =>
        rw [h2] at h
        simp at h
        subst h
        simp [numsOf_snoc ws x ms n h2 hx]
theorem numsOf_bad : ∀ {ws : List Bs} {x : Bs}, x ∈ ws → numOf x = none → numsOf ws = none
  | [], x, h, _ => by simp at h
  | w :: ws, x, h, hx => by
    unfold numsOf
    rw [List.mem_cons] at h
    rcases h with rfl | h
    · rw [hx]
    · cases numOf w with
      | none => rfl
      | some m => simp only []; rw [numsOf_bad h hx]
theorem numsOf_len : ∀ {ws : List Bs} {ns : List Int}, numsOf ws = some ns → ns.length = ws.length := by
  intro ws ns h
  rw [← itoa_numsOf h]; simp

/-- Numbers put in places. -/
def puts : Array Value → List Nat → List Int → Array Value
  | cs, j :: fs, n :: ns => puts (cs.setIfInBounds j (I n)) fs ns
  | cs, _, _ => cs

theorem puts_snoc : ∀ (cs : Array Value) (fs : List Nat) (ns : List Int) (j : Nat) (n : Int), fs.length = ns.length → puts cs (fs ++ [j]) (ns ++ [n]) = (puts cs fs ns).setIfInBounds j (I n)
  | cs, [], [], j, n, _ => rfl
  | cs, i :: fs, m :: ns, j, n, h => puts_snoc _ fs ns j n (by simpa using h)
  | cs, [], m :: ns, j, n, h => by simp at h
  | cs, i :: fs, [], j, n, h => by simp at h
theorem puts_size : ∀ (cs : Array Value) (fs : List Nat) (ns : List Int), (puts cs fs ns).size = cs.size
  | cs, [], ns => by cases ns <;> rfl
  | cs, j :: fs, [] => rfl
  | cs, j :: fs, n :: ns => by rw [puts, puts_size]; simp

def fillOk (fs : List Nat) (ws : List Bs) : Bool := ws.length == fs.length && (numsOf ws).isSome

/-- What filling comes to. -/
def Fills (w : World) (b : Nat) (t : TypeId) (cs : Array Value) (fs : List Nat) (ws : List Bs) (e : Ending) (w' : World) : Prop :=
  e = .returned (.bool (fillOk fs ws)) ∧ w.grownBy w' (some b) ∧ ∀ ns, numsOf ws = some ns → ws.length = fs.length → w'.heap[b]? = some (.cells (puts cs fs ns) t (0, 0))

theorem take_next' {α : Type} [Inhabited α] (l : List α) (k : Nat) (h : k < l.length) (d : α) : l.take (k + 1) = l.take k ++ [l.getD k d] := by
  rw [List.take_add_one]
  simp [h]

set_option maxHeartbeats 2000000 in
theorem fill_any (v u : Value) (b : Nat) (t : TypeId) (cs : Array Value) (fs : List Nat) (ws : List Bs) (w : World) (H : ∀ w', w.grownBy w' (some b) → Ptrs w' v b fs ∧ Strs w' u ws ∧ Vars w')
    (hb : w.heap[b]? = some (.cells cs t (0, 0))) (hfs : ∀ k, k < fs.length → fs.getD k 0 < cs.size) (hs : ∀ k, k < ws.length → (ws.getD k []).length ≤ 1000000000) :
    Calls Tryd.prog 19 #[v, u] w fun e w' => Fills w b t cs fs ws e w' := by
  obtain ⟨hp, hu, -⟩ := H w (World.grownBy.refl _ _)
  obtain ⟨ao, cap, rfl, h1, h2, -⟩ := hp.form
  obtain ⟨ao', cap', rfl, h1', h2', -⟩ := hu.form
  unfold maxLen at h2 h2'
  clear hp hu
  by_cases hl : ws.length = fs.length
  case neg =>
    have hz : ¬ ((ws.length : Int) = (fs.length : Int)) := by omega
    have hb' : ((ws.length : Int) == (fs.length : Int)) = false := by simpa using hz
    clear H
    go_enter Tryd.func19, Tryd.ntmps19
    go_wp2
    go_ret
    refine ⟨?_, World.grownBy.refl _ _, fun ns _ hx => absurd hx hl⟩
    simp [fillOk, hl]
  have HL : Hid (ws.length = fs.length) := hl
  rw [hl] at H h1' ⊢
  clear hl
  go_enter Tryd.func19, Tryd.ntmps19
  go_wp2
  go_loopw [16] (fun i wr => ∃ (k : Nat) (ns : List Int), k ≤ fs.length ∧ i = I k ∧ numsOf (ws.take k) = some ns ∧ w.grownBy wr (some b) ∧ wr.heap[b]? = some (.cells (puts cs (fs.take k) ns) t (0, 0))) (fun i _ => fs.length - (intOf i).toNat)
  case atStart => exact ⟨0, [], by omega, rfl, by simp [numsOf], World.grownBy.refl _ _, by simpa [puts] using hb⟩
  case round =>
    obtain ⟨k, ns, hk, rfl, hn, hg, hh⟩ := hrel
    by_cases hlt : k < fs.length
    · have hl := HL.out
      obtain ⟨hp, hu, hvv⟩ := H _ hg
      obtain ⟨ao1, cap1, ea, -, -, c1⟩ := hp.form
      obtain ⟨ao2, cap2, eb, -, -, c2⟩ := hu.form
      simp only [Value.slice.injEq, true_and] at ea
      obtain ⟨rfl, rfl⟩ := ea
      simp only [Value.slice.injEq] at eb
      obtain ⟨rfl, -, rfl⟩ := eb
      obtain ⟨b1, o1, rfl, d1⟩ := c1 k (by omega)
      obtain ⟨b2, o2, rfl, d2⟩ := c2 k (by omega)
      have hx := hs k (by omega)
      have hj := hfs k (by omega)
      have hfr : ∀ wx, Ext wr wx → wx.heap[b]? = some (.cells (puts cs (fs.take k) ns) t (0, 0)) := fun wx ex => by
        rw [ex.block b (Array.getElem?_eq_some_iff.1 hh).1]; exact hh
      have hcell : ∀ wx, Ext wr wx → ∃ y, wx.cell? ⟨b, fs.getD k 0, none⟩ = some y ∧ wx.frozen? ⟨b, fs.getD k 0, none⟩ = false := fun wx ex => by
        have hsz : fs.getD k 0 < (puts cs (fs.take k) ns).size := by rw [puts_size]; exact hj
        exact ⟨_, cell_block (hfr wx ex) (Array.getElem?_eq_getElem hsz), frozen_block (hfr wx ex)⟩
      have ex1 : ws.take (k + 1) = ws.take k ++ [ws.getD k []] := take_next' ws k (by omega) []
      have ex2 : fs.take (k + 1) = fs.take k ++ [fs.getD k 0] := take_next' fs k (by omega) 0
      have hmem : ws.getD k [] ∈ ws := by
        have hw : k < ws.length := by omega
        simp [hw]
      clear c1 c2 hp hu H hfs hs
      generalize hq : ws.getD k [] = x at d2 hx ex1 hmem
      generalize hr : fs.getD k 0 = j at d1 hcell ex2 hj
      clear hq hr
      have E1 : Hid (ws.take (k + 1) = ws.take k ++ [x]) := ex1
      have E2 : Hid (fs.take (k + 1) = fs.take k ++ [j]) := ex2
      have HN : Hid (numsOf (ws.take k) = some ns) := hn
      have HH : Hid (∀ wx, Ext wr wx → wx.heap[b]? = some (.cells (puts cs (fs.take k) ns) t (0, 0))) := hfr
      have HC : Hid (∀ wx, Ext wr wx → ∃ y, wx.cell? ⟨b, j, none⟩ = some y ∧ wx.frozen? ⟨b, j, none⟩ = false) := hcell
      have HM : Hid (x ∈ ws) := hmem
      have hkl : (k : Int) < (fs.length : Int) := by omega
      clear ex1 ex2 hn hfr hcell hmem hh hb hl
      cases hnum : numOf x with
      | none =>
        have HX : Hid (numOf x = none) := hnum
        have hcall : ∀ wx, Vars wx → Calls Tryd.prog 31 #[S x] wx fun e w' => ∃ n, e = .returned (.tuple #[I n, .bool false]) ∧ Ext wx w' := fun wx hv => number_none x hx hnum wx hv
        clear hnum
        go_wp2_with (go_at_call 31; refine (hcall _ hvv).mono ?_; rintro e w1 ⟨n, rfl, e1⟩)
        go_ret
        have hbad := numsOf_bad HM.out HX.out
        refine ⟨?_, grown_trans hg (e1.grownBy _), fun ns' h' _ => by rw [hbad] at h'; cases h'⟩
        simp [fillOk, hbad]
      | some n =>
        have HX : Hid (numOf x = some n) := hnum
        have hcall : ∀ wx, Vars wx → Calls Tryd.prog 31 #[S x] wx fun e w' => e = .returned (.tuple #[I n, .bool true]) ∧ Ext wx w' := fun wx hv => number_some x hx n hnum wx hv
        clear hnum
        go_wp2_with (go_at_call 31; refine Calls.exts (hcall _ hvv) ?_; intro w1 e1; have d3 := e1.cell d1; obtain ⟨y, hy1, hy2⟩ := HC.out w1 e1)
        go_roundw
        case rel =>
          refine ⟨k + 1, ns ++ [n], by omega, by go_num, by rw [E1.out]; exact numsOf_snoc _ _ _ _ HN.out HX.out, grown_trans (grown_trans hg (e1.grownBy _)) (grown_setCell _ b j _), ?_⟩
          have hlen : (fs.take k).length = ns.length := by rw [numsOf_len HN.out, List.length_take, List.length_take]; have := HL.out; omega
          rw [E2.out, puts_snoc _ _ _ _ _ hlen]
          exact heap_setCell_same _ _ _ _ _ _ (HH.out w1 e1)
        case measure => simp [intOf]; omega
    · have hk' : k = fs.length := by omega
      have HK : Hid (k = fs.length) := hk'
      have HN : Hid (numsOf (ws.take k) = some ns) := hn
      have HH : Hid (wr.heap[b]? = some (.cells (puts cs (fs.take k) ns) t (0, 0))) := hh
      clear hk' hn hh hb H hfs hs
      go_wp2
      go_ret
      have e1 : ws.take k = ws := by rw [HK.out, ← HL.out]; simp
      have e2 : fs.take k = fs := by rw [HK.out]; simp
      have hn := HN.out
      rw [e1] at hn
      refine ⟨?_, hg, fun ns' h' _ => ?_⟩
      · simp [fillOk, hn, HL.out]
      · rw [hn] at h'
        injection h' with h'
        subst h'
        have hh := HH.out
        rw [e2] at hh
        exact hh

end Go.Proofs.YtdmipnnfoolelabDoor

/- Walks: which deed a call is, and doing it. -/
import Derived.Test.YtdmipnnfoolelaaM6
namespace Go.Proofs.Ytdmipnnfoolelaa
open Go.RowKit Go.Mk

/-- A function value that does what the call asks with names of one's own. -/
def DeedP (c : Cl) (v : Value) (w : World) : Prop := ∃ F caps, v = .func (.func F) #[] caps ∧ Enters F ∧ ∀ l g wa, Ext w wa → Owned wa g l → Okw l → Calls Try.prog F (#[.slice (some ⟨g, 0, none⟩) l.length l.length] ++ caps) wa fun e w' => Told wa g (doCl l c).1 (doCl l c).2 e w'

/-- .. where the name is there, at a place that is handed in. -/
def TurnP (c : Cl) (v : Value) (w : World) : Prop := ∃ F caps, v = .func (.func F) #[] caps ∧ Enters F ∧ ∀ l g wa, Ext w wa → Owned wa g l → Okw l → at1 l c.name < l.length → Calls Try.prog F (#[.slice (some ⟨g, 0, none⟩) l.length l.length, I (at1 l c.name)] ++ caps) wa fun e w' => Told wa g (doCl l c).1 (doCl l c).2 e w'

theorem monoDeed (c : Cl) : ∀ v, MonoP (DeedP c v) := fun _ _ _ he ⟨F, caps, h1, h2, h3⟩ => ⟨F, caps, h1, h2, fun l g wa hx => h3 l g wa (he.trans hx)⟩

theorem monoTurn (c : Cl) : ∀ v, MonoP (TurnP c v) := fun _ _ _ he ⟨F, caps, h1, h2, h3⟩ => ⟨F, caps, h1, h2, fun l g wa hx => h3 l g wa (he.trans hx)⟩

theorem turn_get (a o n : Int) (w : World) : TurnP ⟨2, a, o, n⟩ (.func (.func 51) #[] #[]) w :=
  ⟨_, _, rfl, enters_get, fun l g wa _ ho _ ha => (get_any l g _ wa ho ha).mono fun e w' h => by rw [doCl_get, if_neg (by simpa using ha)]; exact h⟩

theorem turn_drop (a o n : Int) (w : World) : TurnP ⟨3, a, o, n⟩ (.func (.func 52) #[] #[]) w :=
  ⟨_, _, rfl, enters_drop, fun l g wa _ ho hk ha => (drop_any l g _ wa ho ha (by have := hk.len; omega)).mono fun e w' h => by rw [doCl_drop, if_neg (by simpa using ha)]; exact h⟩

theorem deed_count (a o n : Int) (w : World) : DeedP ⟨5, a, o, n⟩ (.func (.func 48) #[] #[]) w :=
  ⟨_, _, rfl, enters_count, fun l g wa _ ho _ => count_any l g wa ho⟩

set_option maxHeartbeats 400000 in
theorem mkput_any (a o n : Int) (w : World) : Calls Try.prog 49 #[I a, I n] w fun e w' => ∃ r, e = .returned r ∧ Ext w w' ∧ DeedP ⟨1, a, o, n⟩ r w' := by
  have hmf := func_mk
  go_enter Try.func49, Try.ntmps49
  go_wp2
  go_ret
  refine ⟨_, rfl, ((Ext.refl w).alloc _).alloc _, _, _, rfl, enters_put, fun l g wa hx ho hk => ?_⟩
  have q1 := hx.cell (p := ⟨w.heap.size, 0, none⟩) (v := I a) (by simp)
  have q2 := hx.cell (p := ⟨w.heap.size + 1, 0, none⟩) (v := I n) (by simp)
  refine (put_any l g _ _ a n wa ho (by have := hk.len; omega) q1 (cell_lt q1) q2).mono fun e w' h => ?_
  rw [doCl_put]
  by_cases ha : at1 l a < l.length
  · rw [if_pos ha] at h ⊢; exact h
  · rw [if_neg ha] at h ⊢
    by_cases h5 : 5 ≤ l.length
    · rw [if_pos h5] at h ⊢; exact h
    · rw [if_neg h5] at h ⊢; exact h

set_option maxHeartbeats 400000 in
theorem mkthere_any (c : Cl) (v : Value) (w : World) (hv : TurnP c v w) (hno : ∀ l, ¬ at1 l c.name < l.length → doCl l c = (l, ⟨6, 0⟩)) : Calls Try.prog 50 #[I c.name, v] w fun e w' => ∃ r, e = .returned r ∧ Ext w w' ∧ DeedP c r w' := by
  have hmf := func_mk
  obtain ⟨F, caps, rfl, hE, hF⟩ := hv
  have HF : Hid _ := hF
  have HE : Hid (Enters F) := hE
  clear hF hE
  go_enter Try.func50, Try.ntmps50
  go_wp2
  go_ret
  refine ⟨_, rfl, ((Ext.refl w).alloc _).alloc _, _, _, rfl, enters_there, fun l g wa hx ho hk => ?_⟩
  have hw : Ext w wa := (((Ext.refl w).alloc _).alloc _).trans hx
  have q1 := hx.cell (p := ⟨w.heap.size, 0, none⟩) (v := I c.name) (by simp)
  have q2 := hx.cell (p := ⟨w.heap.size + 1, 0, none⟩) (v := .func (.func F) #[] caps) (by simp)
  refine (there_any F caps l g _ _ c.name wa (doCl l c).1 (doCl l c).2 ho q1 (cell_lt q1) q2 HE.out (fun ha wb hb => HF.out l g wb (hw.trans hb) (owns_ext ho hb) hk ha)).mono fun e w' h => ?_
  by_cases ha : at1 l c.name < l.length
  · rw [if_pos ha] at h; exact h
  · rw [if_neg ha] at h; rw [hno l ha]; exact h

set_option maxHeartbeats 400000 in
theorem mkadd_any (a o n : Int) (w : World) (hn : -1073741824 ≤ n ∧ n ≤ 1073741824) : Calls Try.prog 53 #[I n] w fun e w' => ∃ r, e = .returned r ∧ Ext w w' ∧ TurnP ⟨4, a, o, n⟩ r w' := by
  have hmf := func_mk
  go_enter Try.func53, Try.ntmps53
  go_wp2
  go_ret
  refine ⟨_, rfl, (Ext.refl w).alloc _, _, _, rfl, enters_add, fun l g wa hx ho hk ha => ?_⟩
  have q1 := hx.cell (p := ⟨w.heap.size, 0, none⟩) (v := I n) (by simp)
  refine (add_any l g _ _ n wa ho ha q1 (cell_lt q1) hn (hk.at ha).2.2).mono fun e w' h => ?_
  rw [doCl_add, if_neg (by simpa using ha)]
  by_cases hs : -1073741824 ≤ num l (at1 l a) + n ∧ num l (at1 l a) + n ≤ 1073741824
  · rw [if_pos hs] at h
    rw [if_neg (by simpa using hs)]; exact h
  · rw [if_neg hs] at h
    rw [if_pos hs]; exact h

set_option maxHeartbeats 400000 in
theorem mkswap_any (a o n : Int) (w : World) : Calls Try.prog 54 #[I o] w fun e w' => ∃ r, e = .returned r ∧ Ext w w' ∧ TurnP ⟨6, a, o, n⟩ r w' := by
  have hmf := func_mk
  go_enter Try.func54, Try.ntmps54
  go_wp2
  go_ret
  refine ⟨_, rfl, (Ext.refl w).alloc _, _, _, rfl, enters_swap, fun l g wa hx ho hk ha => ?_⟩
  have q1 := hx.cell (p := ⟨w.heap.size, 0, none⟩) (v := I o) (by simp)
  refine (swap_any l g _ _ o wa ho ha q1 (cell_lt q1)).mono fun e w' h => ?_
  rw [doCl_swap', if_neg (by simpa using ha)]
  by_cases hs : at1 l o < l.length
  · rw [if_pos hs] at h
    rw [if_neg (by simpa using hs)]; exact h
  · rw [if_neg hs] at h
    rw [if_pos hs]; exact h

end Go.Proofs.Ytdmipnnfoolelaa

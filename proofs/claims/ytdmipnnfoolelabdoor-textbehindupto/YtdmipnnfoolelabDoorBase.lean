/- What walks share that name no function of the project. -/
import Derived.Test.YtdmipnnfoolelabDoorRows
import Derived.Test.YtdmipnnfoolelabDoorMem
import Derived.Test.YtdmipnnfoolelabDoorMath1
import Derived.Test.YtdmipnnfoolelabDoorMath3
import Derived.Deep.QuietTactic
import Derived.BigQuiet
import Derived.BigRegion
import Derived.Handy
namespace Go.Proofs.YtdmipnnfoolelabDoor
open Go.RowKit Go.Mk

theorem Tryd.infoInt : (Tryd.prog.info? 3).map (fun i => (i.zero, i.size, i.bytes)) = some (some (.int .i64 0), 1, 8) := by kernel_rfl

theorem Tryd.infoInt1 : (Tryd.prog.info? 3).map (·.size) = some 1 := by kernel_rfl

theorem ret_int {k : IntKind} {a b : Int} (h : a = b) : Ending.returned (.int k a) = .returned (.int k b) := by rw [h]

theorem ret_bool {a b : Bool} (h : a = b) : Ending.returned (.bool a) = .returned (.bool b) := by rw [h]

theorem gives_ret {w w' : World} {v u : Value} (he : Ext w w') (h : v = u) : ∃ r, Ending.returned v = .returned r ∧ Ext w w' ∧ r = u := ⟨v, rfl, he, h⟩

/-- A contract of a call that only makes memory beside a known answer. -/
theorem Calls.exts {P : Program} {f : FuncId} {args : Array Value} {w : World} {v : Value} {Q : Ending → World → Prop} (h : Calls P f args w fun e w' => e = .returned v ∧ Ext w w') (k : ∀ w', Ext w w' → Q (.returned v) w') : Calls P f args w Q :=
  h.mono fun e w' ⟨he, hx⟩ => by rw [he]; exact k w' hx

theorem gives_exts {P : Program} {f : FuncId} {args : Array Value} {w : World} {v : Value} (h : Calls P f args w fun e w' => e = .returned v ∧ Ext w w') : Gives P f args w (fun r _ => r = v) :=
  Calls.mono h fun _ _ ⟨he, hx⟩ => ⟨v, he, hx, rfl⟩

theorem block_ext {w w1 : World} {o : Obj} (e : Ext (w.alloc o) w1) : w1.heap[w.heap.size]? = some o := by
  have := e.block w.heap.size (by simp)
  rw [this]
  exact heap_alloc_new w o

theorem cell_block {w : World} {b i : Nat} {cs : Array Value} {t : TypeId} {u : Value} (h : w.heap[b]? = some (.cells cs t (0, 0))) (hi : cs[i]? = some u) : w.cell? ⟨b, i, none⟩ = some u := by
  simp [World.cell?, h, hi]

theorem frozen_block {w : World} {b i : Nat} {cs : Array Value} {t : TypeId} (h : w.heap[b]? = some (.cells cs t (0, 0))) : w.frozen? ⟨b, i, none⟩ = false := by
  simp [World.frozen?, h]

theorem box_ext {w w1 : World} {t : TypeId} {u v : Value} (e : Ext (w.alloc (.cells #[u, v] t)) w1) :
    w1.cell? ⟨w.heap.size, 0, none⟩ = some u ∧ w1.cell? ⟨w.heap.size, 1, none⟩ = some v ∧ w1.frozen? ⟨w.heap.size, 0, none⟩ = false ∧ w1.frozen? ⟨w.heap.size, 1, none⟩ = false :=
  ⟨cell_block (block_ext e) rfl, cell_block (block_ext e) rfl, frozen_block (block_ext e), frozen_block (block_ext e)⟩

theorem box_at {w w1 : World} {t : TypeId} {u v : Value} (b : Nat) (e : Ext (w.alloc (.cells #[u, v] t)) w1) (hb : w.heap.size = b) :
    w1.cell? ⟨b, 0, none⟩ = some u ∧ w1.cell? ⟨b, 1, none⟩ = some v ∧ w1.frozen? ⟨b, 0, none⟩ = false ∧ w1.frozen? ⟨b, 1, none⟩ = false := by
  subst hb; exact box_ext e

theorem box_of {wx w1 : World} {b : Nat} {t : TypeId} {u v : Value} (h : wx.heap[b]? = some (.cells #[u, v] t (0, 0))) (e : Ext wx w1) :
    w1.cell? ⟨b, 0, none⟩ = some u ∧ w1.cell? ⟨b, 1, none⟩ = some v ∧ w1.frozen? ⟨b, 0, none⟩ = false ∧ w1.frozen? ⟨b, 1, none⟩ = false := by
  have hb : b < wx.heap.size := (Array.getElem?_eq_some_iff.1 h).1
  have h2 : w1.heap[b]? = some (.cells #[u, v] t (0, 0)) := by rw [e.block b hb]; exact h
  exact ⟨cell_block h2 rfl, cell_block h2 rfl, frozen_block h2, frozen_block h2⟩

theorem heap_drew_new (w : World) (o : Obj) (nq : Nat) : ((w.alloc o).drewN nq).heap[w.heap.size]? = some o := heap_alloc_new w o

theorem heap_set_new {w : World} {o : Obj} {g i nq : Nat} {x : Value} (hg : g < w.heap.size) : (((w.alloc o).drewN nq).setCell ⟨g, i, none⟩ x).heap[w.heap.size]? = some o := by
  rw [Below.heap_setCell _ _ _ _ (fun e => by simp only [] at e; omega)]
  exact heap_alloc_new w o

theorem grown_setCell (w : World) (b i : Nat) (x : Value) : w.grownBy (w.setCell ⟨b, i, none⟩ x) (some b) :=
  ⟨rfl, rfl, rfl, by simp, fun k _ hk => Below.heap_setCell w _ x k (fun e => hk (by simp [e]))⟩

theorem owns_setCell {w : World} {base e size n : Nat} {v : Value} {xs : List Value} (h : w.ownsRow base e size v n xs) {b : Nat} (hb : v.ownBlock ≠ some b) (i : Nat) (x : Value) : (w.setCell ⟨b, i, none⟩ x).ownsRow base e size v n xs :=
  h.kept (grown_setCell w b i x) (.inr hb)

theorem grown_new {w w1 : World} {row : Option Nat} (h : w.grownBy w1 row) {b : Nat} (hb : w.heap.size ≤ b) (i : Nat) (x : Value) : w.grownBy (w1.setCell ⟨b, i, none⟩ x) row :=
  ⟨h.os, h.tape, h.output, by simpa using h.size, fun k hk hne => by rw [Below.heap_setCell w1 _ x k (fun e => by subst e; exact absurd hk (Nat.not_lt.2 hb))]; exact h.block k hk hne⟩

/-- A row of one kind is no box of another. -/
theorem own_ne {w : World} {base e size n b : Nat} {v : Value} {xs : List Value} {cs : Array Value} {t : TypeId} (h : w.ownsRow base e size v n xs) (hb : w.heap[b]? = some (.cells cs t (0, 0))) (hne : e ≠ t) : v.ownBlock ≠ some b := by
  intro he
  rcases h.2 with ⟨rfl, _⟩ | ⟨k, cap, cur, rfl, _, hk, _⟩
  · cases he
  · have e2 : k = b := by simpa [Value.ownBlock] using he
    subst e2
    rw [hb] at hk
    simp at hk
    exact hne hk.2.symm

theorem func_mk : ∀ (fn : Fn) (first cap : Array Value) (w : World), (Instr.makeFunc fn first cap).run Tryd.prog w = .ok (.func fn first cap) w := fun _ _ _ _ => rfl

theorem cell_lt {w : World} {p : Addr} {v : Value} (h : w.cell? p = some v) : p.block < w.heap.size := by
  by_cases hb : p.block < w.heap.size
  · exact hb
  · simp [World.cell?, Array.getElem?_eq_none (Nat.le_of_not_lt hb)] at h

theorem owns_base {w : World} {b1 b2 e size n : Nat} {v : Value} {xs : List Value} (h : w.ownsRow b1 e size v n xs) (hle : b2 ≤ b1) : w.ownsRow b2 e size v n xs := by
  obtain ⟨h1, h2⟩ := h
  refine ⟨h1, ?_⟩
  rcases h2 with h | ⟨g, cap, cur, rfl, hb, hr⟩
  · exact .inl h
  · exact .inr ⟨g, cap, cur, rfl, Nat.le_trans hle hb, hr⟩

/-- Rows of two kinds are two rows. -/
theorem own_types {w : World} {b1 b2 e1 e2 s1 s2 n m : Nat} {x y : Value} {xs ys : List Value} (h1 : w.ownsRow b1 e1 s1 x n xs) (h2 : w.ownsRow b2 e2 s2 y m ys) (hne : e1 ≠ e2) : x.ownBlock = none ∨ x.ownBlock ≠ y.ownBlock := by
  rcases h2.2 with ⟨rfl, _⟩ | ⟨k, cap, cur, rfl, _, hk, _⟩
  · cases hx : x.ownBlock with
    | none => exact .inl rfl
    | some j => exact .inr (by simp [Value.ownBlock])
  · exact .inr (own_ne h1 hk hne)

theorem wpM_norm {P : Program} {w0 : World} {ops : Array Oper} {Q : Act → (Tmp → World → Prop) → Prop} {l : List Oper} {ks : List Kind} {a : Act} {F : Tmp → World → Prop} (h : ∀ K : Act → Prop, (∀ a', wpM P w0 ops Q l ks a' F → K a') → K a) : wpM P w0 ops Q l ks a F := h _ (fun _ h => h)

theorem stop_at {p : Prop} (h : Hid p) : p := h.out

theorem writes_lit1 {w : World} (o : Obj) (e : TypeId) (l : List (Int × Int)) (cs : Array Value) (n : Nat) (hc : cs.toList = cells2 l) (hn : l.length = n) (hm : n ≤ maxLen) : Writes ((w.alloc o).alloc (.cells cs e)) (.slice (some ⟨w.heap.size + 1, 0, none⟩) n n) l := by
  have := writes_lit (w := w.alloc o) e l cs n hc hn hm
  simpa using this

end Go.Proofs.YtdmipnnfoolelabDoor

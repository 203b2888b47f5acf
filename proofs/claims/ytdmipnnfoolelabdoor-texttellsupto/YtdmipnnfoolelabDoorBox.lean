/- Boxes of four cells, and of six. -/
import Derived.Test.YtdmipnnfoolelabDoorBase
namespace Go.Proofs.YtdmipnnfoolelabDoor
open Go.RowKit Go.Mk

/-- A box of four. -/
theorem box4 {w : World} {b : Nat} {t : TypeId} {u v x y : Value} (h : w.heap[b]? = some (.cells #[u, v, x, y] t (0, 0))) :
    w.cell? ⟨b, 0, none⟩ = some u ∧ w.cell? ⟨b, 1, none⟩ = some v ∧ w.cell? ⟨b, 2, none⟩ = some x ∧ w.cell? ⟨b, 3, none⟩ = some y ∧ w.frozen? ⟨b, 0, none⟩ = false ∧ w.frozen? ⟨b, 1, none⟩ = false ∧ w.frozen? ⟨b, 2, none⟩ = false ∧ w.frozen? ⟨b, 3, none⟩ = false :=
  ⟨cell_block h rfl, cell_block h rfl, cell_block h rfl, cell_block h rfl, frozen_block h, frozen_block h, frozen_block h, frozen_block h⟩

theorem block_of {a w : World} {b : Nat} {o : Obj} (h : a.heap[b]? = some o) (e : Ext a w) : w.heap[b]? = some o := by
  rw [e.block b (Array.getElem?_eq_some_iff.1 h).1]; exact h

/-- .. that has been written. -/
theorem set4 {w : World} {b : Nat} {t : TypeId} {p q r s : Value} (h : w.heap[b]? = some (.cells #[p, q, r, s] t (0, 0))) (u v x y : Value) :
    ((((w.setCell ⟨b, 0, none⟩ u).setCell ⟨b, 1, none⟩ v).setCell ⟨b, 2, none⟩ x).setCell ⟨b, 3, none⟩ y).heap[b]? = some (.cells #[u, v, x, y] t (0, 0)) := by
  have h1 := heap_setCell_same _ _ 0 _ _ u h
  have h2 := heap_setCell_same _ _ 1 _ _ v h1
  have h3 := heap_setCell_same _ _ 2 _ _ x h2
  have h4 := heap_setCell_same _ _ 3 _ _ y h3
  simpa using h4
theorem ext_set4 {a w : World} (h : Ext a w) {b : Nat} (hb : a.heap.size ≤ b) (u v x y : Value) : Ext a ((((w.setCell ⟨b, 0, none⟩ u).setCell ⟨b, 1, none⟩ v).setCell ⟨b, 2, none⟩ x).setCell ⟨b, 3, none⟩ y) :=
  (((h.setCell hb u).setCell hb v).setCell hb x).setCell hb y
theorem first_block {w w2 : World} {o o' : Obj} (e : Ext ((w.alloc o).alloc o') w2) : w2.heap[w.heap.size]? = some o := by
  refine block_of ?_ e
  exact block_of (heap_alloc_new w o) ((Ext.refl _).alloc o')

theorem second_block {w w2 : World} {o o' : Obj} (e : Ext ((w.alloc o).alloc o') w2) : w2.heap[w.heap.size + 1]? = some o' := by
  refine block_of ?_ e
  have := heap_alloc_new (w.alloc o) o'
  simpa using this

/-- A box of six. -/
theorem box6 {w : World} {b : Nat} {t : TypeId} {x0 x1 x2 x3 x4 x5 : Value} (h : w.heap[b]? = some (.cells #[x0, x1, x2, x3, x4, x5] t (0, 0))) :
    (w.cell? ⟨b, 0, none⟩ = some x0 ∧ w.cell? ⟨b, 1, none⟩ = some x1 ∧ w.cell? ⟨b, 2, none⟩ = some x2 ∧ w.cell? ⟨b, 3, none⟩ = some x3 ∧ w.cell? ⟨b, 4, none⟩ = some x4 ∧ w.cell? ⟨b, 5, none⟩ = some x5) ∧
      w.frozen? ⟨b, 0, none⟩ = false ∧ w.frozen? ⟨b, 1, none⟩ = false ∧ w.frozen? ⟨b, 2, none⟩ = false ∧ w.frozen? ⟨b, 3, none⟩ = false ∧ w.frozen? ⟨b, 4, none⟩ = false ∧ w.frozen? ⟨b, 5, none⟩ = false :=
  ⟨⟨cell_block h rfl, cell_block h rfl, cell_block h rfl, cell_block h rfl, cell_block h rfl, cell_block h rfl⟩, frozen_block h, frozen_block h, frozen_block h, frozen_block h, frozen_block h, frozen_block h⟩

theorem set6 {w : World} {b : Nat} {t : TypeId} {p0 p1 p2 p3 p4 p5 : Value} (h : w.heap[b]? = some (.cells #[p0, p1, p2, p3, p4, p5] t (0, 0))) (x0 x1 x2 x3 x4 x5 : Value) :
    ((((((w.setCell ⟨b, 0, none⟩ x0).setCell ⟨b, 1, none⟩ x1).setCell ⟨b, 2, none⟩ x2).setCell ⟨b, 3, none⟩ x3).setCell ⟨b, 4, none⟩ x4).setCell ⟨b, 5, none⟩ x5).heap[b]? = some (.cells #[x0, x1, x2, x3, x4, x5] t (0, 0)) := by
  have h1 := heap_setCell_same _ _ 0 _ _ x0 h
  have h2 := heap_setCell_same _ _ 1 _ _ x1 h1
  have h3 := heap_setCell_same _ _ 2 _ _ x2 h2
  have h4 := heap_setCell_same _ _ 3 _ _ x3 h3
  have h5 := heap_setCell_same _ _ 4 _ _ x4 h4
  have h6 := heap_setCell_same _ _ 5 _ _ x5 h5
  simpa using h6

theorem ext_set6 {a w : World} (h : Ext a w) {b : Nat} (hb : a.heap.size ≤ b) (x0 x1 x2 x3 x4 x5 : Value) :
    Ext a ((((((w.setCell ⟨b, 0, none⟩ x0).setCell ⟨b, 1, none⟩ x1).setCell ⟨b, 2, none⟩ x2).setCell ⟨b, 3, none⟩ x3).setCell ⟨b, 4, none⟩ x4).setCell ⟨b, 5, none⟩ x5) :=
  (((((h.setCell hb x0).setCell hb x1).setCell hb x2).setCell hb x3).setCell hb x4).setCell hb x5

/-- A box of two. -/
theorem box2 {w : World} {b : Nat} {t : TypeId} {u v : Value} (h : w.heap[b]? = some (.cells #[u, v] t (0, 0))) : w.cell? ⟨b, 0, none⟩ = some u ∧ w.cell? ⟨b, 1, none⟩ = some v ∧ w.frozen? ⟨b, 0, none⟩ = false ∧ w.frozen? ⟨b, 1, none⟩ = false :=
  ⟨cell_block h rfl, cell_block h rfl, frozen_block h, frozen_block h⟩
theorem set2 {w : World} {b : Nat} {t : TypeId} {p q : Value} (h : w.heap[b]? = some (.cells #[p, q] t (0, 0))) (u v : Value) : ((w.setCell ⟨b, 0, none⟩ u).setCell ⟨b, 1, none⟩ v).heap[b]? = some (.cells #[u, v] t (0, 0)) := by
  have h1 := heap_setCell_same _ _ 0 _ _ u h
  have h2 := heap_setCell_same _ _ 1 _ _ v h1
  simpa using h2
theorem ext_set2 {a w : World} (h : Ext a w) {b : Nat} (hb : a.heap.size ≤ b) (u v : Value) : Ext a ((w.setCell ⟨b, 0, none⟩ u).setCell ⟨b, 1, none⟩ v) := (h.setCell hb u).setCell hb v

theorem block_set {w : World} {b b' i : Nat} {x : Value} {o : Obj} (h : w.heap[b]? = some o) (hne : b ≠ b') : (w.setCell ⟨b', i, none⟩ x).heap[b]? = some o := by
  rw [Below.heap_setCell w _ x b hne]
  exact h

/-- A new box. -/
def BoxC (base : Nat) (t : TypeId) (cs : Array Value) (v : Value) (w : World) : Prop := ∃ b, v = .pointer (some ⟨b, 0, none⟩) ∧ base ≤ b ∧ w.heap[b]? = some (.cells cs t (0, 0))

theorem monoBoxC (base : Nat) (t : TypeId) (cs : Array Value) : ∀ v, MonoP (BoxC base t cs v) := fun _ _ _ he ⟨b, e, h1, h2⟩ => ⟨b, e, h1, by rw [he.block b (Array.getElem?_eq_some_iff.1 h2).1]; exact h2⟩

theorem boxC_new {w : World} {base : Nat} {t : TypeId} {cs : Array Value} (h : base ≤ w.heap.size) : BoxC base t cs (.pointer (some ⟨w.heap.size, 0, none⟩)) (w.alloc (.cells cs t)) := ⟨_, rfl, h, heap_alloc_new _ _⟩

end Go.Proofs.YtdmipnnfoolelabDoor

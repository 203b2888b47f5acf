/- Texts of the proof, merged: Mem5 Read4 Mem6 MonoW Mem7. -/
import Derived.Test.YtdmipnnfoolelacKB
import Derived.ArgAppend
import Derived.Test.YtdmipnnfoolelacKA

namespace Go.Mk
open Go Go.RowKit

/-- A fact about the heap alone, that stays while it grows. -/
def HeapP (φ : World → Prop) : Prop := ∀ w w', (∀ k, k < w.heap.size → w'.heap[k]? = w.heap[k]?) → φ w → φ w'
def HeapR {X : Type} (R : El X) : Prop := ∀ w w' c x, (∀ k, k < w.heap.size → w'.heap[k]? = w.heap[k]?) → R w c x → R w' c x

/-- The fact φ, as long as the blocks A stay. -/
def Rd (A : Nat → Prop) (φ : World → Prop) (w : World) : Prop := ∀ w' : World, (∀ k, A k → k < w.heap.size → w'.heap[k]? = w.heap[k]?) → φ w'

theorem Rd.out {A : Nat → Prop} {φ : World → Prop} {w : World} (h : Rd A φ w) : φ w := h w (fun _ _ _ => rfl)
theorem Rd.ext {A : Nat → Prop} {φ : World → Prop} {w w' : World} (h : Rd A φ w) (he : Ext w w') : Rd A φ w' := fun w2 h2 => h w2 (fun k ha hk => by
  rw [h2 k ha (Nat.lt_of_lt_of_le hk he.size)]
  exact he.block k hk)
theorem Rd.mono (A : Nat → Prop) (φ : World → Prop) : MonoP (Rd A φ) := fun _ _ he h => h.ext he
theorem Rd.grown {A : Nat → Prop} {φ : World → Prop} {w w' : World} {row : Option Nat} (h : Rd A φ w) (hg : w.grownBy w' row) (hr : ∀ b, row = some b → ¬ A b) : Rd A φ w' := fun w2 h2 => h w2 (fun k ha hk => by
  rw [h2 k ha (Nat.lt_of_lt_of_le hk hg.size)]
  exact hg.block k hk (fun e => hr k e.symm ha))
theorem Rd.set {A : Nat → Prop} {φ : World → Prop} {w : World} (h : Rd A φ w) {b : Nat} (hb : ¬ A b) (i : Nat) (x : Value) : Rd A φ (w.setCell ⟨b, i, none⟩ x) := fun w2 h2 => h w2 (fun k ha hk => by
  rw [h2 k ha (by simpa using hk)]
  exact Below.heap_setCell w _ x k (fun e => hb (by have e : k = b := e; rw [← e]; exact ha)))
theorem Rd.imp {A : Nat → Prop} {φ ψ : World → Prop} {w : World} (h : Rd A φ w) (hi : ∀ w', φ w' → ψ w') : Rd A ψ w := fun w2 h2 => hi w2 (h w2 h2)
theorem Rd.and {A : Nat → Prop} {φ ψ : World → Prop} {w : World} (h : Rd A φ w) (k : Rd A ψ w) : Rd A (fun w => φ w ∧ ψ w) w := fun w2 h2 => ⟨h w2 h2, k w2 h2⟩
theorem Rd.left {A : Nat → Prop} {φ ψ : World → Prop} {w : World} (h : Rd A (fun w => φ w ∧ ψ w) w) : Rd A φ w := h.imp fun _ h => h.1
theorem Rd.right {A : Nat → Prop} {φ ψ : World → Prop} {w : World} (h : Rd A (fun w => φ w ∧ ψ w) w) : Rd A ψ w := h.imp fun _ h => h.2
theorem Rd.widen {A B : Nat → Prop} {φ : World → Prop} {w : World} (h : Rd A φ w) (hi : ∀ k, k < w.heap.size → A k → B k) : Rd B φ w := fun w2 h2 => h w2 (fun k ha hk => h2 k (hi k hk ha) hk)
theorem Rd.of {φ : World → Prop} (hp : HeapP φ) {w : World} (h : φ w) : Rd (fun k => k < w.heap.size) φ w := fun w2 h2 => hp w w2 (fun k hk => h2 k hk hk) h
theorem Rd.all {A : Nat → Prop} {φ : World → Prop} {w : World} (h : ∀ w, φ w) : Rd A φ w := fun w2 _ => h w2

theorem Row.heap {w w' : World} {size : Nat} {v : Value} {n : Nat} {cs : List Value} (h : Row w size v n cs) (hk : ∀ (j : Nat) (u : Value) (b off : Nat), cs[j]? = some u → (∃ m cap, v = .slice (some ⟨b, off, none⟩) m cap) → w'.heap[b]? = w.heap[b]?) : Row w' size v n cs := by
  obtain ⟨h1, ao, cap, h2, h3, h4, h0, h5⟩ := h
  refine ⟨h1, ao, cap, h2, h3, h4, h0, fun j u hj => ?_⟩
  obtain ⟨b, off, e, hc⟩ := h5 j u hj
  refine ⟨b, off, e, ?_⟩
  have := hk j u b off hj ⟨_, _, by rw [h2, e]⟩
  simp only [World.cell?, this] at hc ⊢
  exact hc
theorem row_heap (size : Nat) (v : Value) (n : Nat) (cs : List Value) : HeapP (fun w => Row w size v n cs) := fun w w' hk h => by
  obtain ⟨h1, ao, cap, h2, h3, h4, h0, h5⟩ := h
  refine ⟨h1, ao, cap, h2, h3, h4, h0, fun j u hj => ?_⟩
  obtain ⟨b, off, e, hc⟩ := h5 j u hj
  refine ⟨b, off, e, ?_⟩
  have hb : b < w.heap.size := by
    by_cases hb : b < w.heap.size
    · exact hb
    · simp [World.cell?, Array.getElem?_eq_none (Nat.le_of_not_lt hb)] at hc
  simp only [World.cell?, hk b hb] at hc ⊢
  exact hc
theorem rowOf_heap {X : Type} {size : Nat} {R : El X} (hR : HeapR R) (v : Value) (xs : List X) : HeapP (fun w => RowOf size R w v xs) := fun _ _ hk ⟨css, he, hr⟩ =>
  ⟨css, ⟨he.1, fun i c x hc hx => ⟨(he.2 i c x hc hx).1, hR _ _ _ _ hk (he.2 i c x hc hx).2⟩⟩, row_heap _ _ _ _ _ _ hk hr⟩

theorem heapCl : HeapR elCl := fun _ _ _ _ _ h => h
theorem heapAn : HeapR elAn := fun _ _ _ _ _ h => h
theorem heapRq : HeapR elRq := fun _ _ _ _ _ h => h
theorem heapRp : HeapR elRp := fun _ _ _ _ _ h => h
theorem heapBs : HeapR elBs := fun _ _ _ _ hk ⟨v, e, h⟩ => ⟨v, e, row_heap _ _ _ _ _ _ hk h⟩
theorem heapCls : HeapR elCls := fun _ _ _ _ hk ⟨v, e, h⟩ => ⟨v, e, rowOf_heap heapCl _ _ _ _ hk h⟩
theorem heapCn : HeapR elCn := fun _ _ _ _ hk ⟨a, b, d, e, h1, h2, h3⟩ => ⟨a, b, d, e, rowOf_heap heapCl _ _ _ _ hk h1, rowOf_heap heapBs _ _ _ _ hk h2, rowOf_heap heapRp _ _ _ _ hk h3⟩
theorem heapSt : HeapR elSt := fun _ _ _ _ hk ⟨a, b, d, e, h, h1, h2, h3, h4⟩ => ⟨a, b, d, e, h, row_heap _ _ _ _ _ _ hk h1, row_heap _ _ _ _ _ _ hk h2, rowOf_heap heapAn _ _ _ _ hk h3, rowOf_heap heapRq _ _ _ _ hk h4⟩
theorem heapSv : HeapR elSv := fun _ _ _ _ hk ⟨a, b, h, h1, h2⟩ => ⟨a, b, h, rowOf_heap heapBs _ _ _ _ hk h1, row_heap _ _ _ _ _ _ hk h2⟩
theorem heapMc : HeapR elMc := fun _ _ _ _ hk ⟨s, v, cl, h, h1, h2, h3⟩ => ⟨s, v, cl, h, heapSt _ _ _ _ hk h1, heapSv _ _ _ _ hk h2, rowOf_heap heapCn _ _ _ _ hk h3⟩

/-- A slice in memory of its own. -/
theorem rd_owns {base e size n : Nat} {v : Value} {cs : List Value} {w : World} (h : w.ownsRow base e size v n cs) : Rd (fun k => base ≤ k) (fun w => Row w size v n cs) w := fun w2 h2 => by
  refine Row.heap (Row.of_owns h) (fun j u b off hj ⟨m, cap, e⟩ => ?_)
  rcases h.2 with ⟨rfl, _⟩ | ⟨g, cap', cur, rfl, hb, hg, _⟩
  · cases e
  · simp at e
    obtain ⟨⟨rfl, _⟩, _⟩ := e
    exact h2 g hb (Array.getElem?_eq_some_iff.1 hg).1
theorem rd_ints {base e n : Nat} {v : Value} {xs : List Int} {w : World} (h : w.ownsRow base e 1 v n (xs.map I)) : Rd (fun k => base ≤ k) (fun w => Ints w v xs) w := by
  have hl : xs.length = n := by simpa using h.1
  subst hl
  exact rd_owns h
theorem rd_writes {base e n : Nat} {v : Value} {l : List (Int × Int)} {w : World} (h : w.ownsRow base e 2 v n (cells2 l)) : Rd (fun k => base ≤ k) (fun w => Writes w v l) w := by
  have hl : l.length = n := by have := h.1; rw [length_cells2] at this; omega
  subst hl
  exact rd_owns h

/-- What a call hands back, and which memory that is: what A was, or new. -/
def Keeps (P : Program) (f : FuncId) (args : Array Value) (w : World) (A : Nat → Prop) (T : Value → World → Prop) : Prop :=
  Calls P f args w fun e w' => ∃ r, e = .returned r ∧ Ext w w' ∧ Rd (fun k => A k ∨ w.heap.size ≤ k) (T r) w'

theorem Keeps.to {P : Program} {f : FuncId} {args : Array Value} {w : World} {A : Nat → Prop} {T : Value → World → Prop} {Q : Ending → World → Prop} (h : Keeps P f args w A T) (k : ∀ r w', Ext w w' → Rd (fun k => A k ∨ w.heap.size ≤ k) (T r) w' → Q (.returned r) w') : Calls P f args w Q :=
  Calls.mono h fun e w' ⟨r, he, hx, ht⟩ => by rw [he]; exact k r w' hx ht
theorem Keeps.gives {P : Program} {f : FuncId} {args : Array Value} {w : World} {A : Nat → Prop} {T : Value → World → Prop} (h : Keeps P f args w A T) : Gives P f args w T :=
  Calls.mono h fun _ _ ⟨r, he, hx, ht⟩ => ⟨r, he, hx, ht.out⟩

/-- A struct's value, by its cells. -/
def Agg {X : Type} (R : El X) (x : X) (v : Value) (w : World) : Prop := ∃ cs : List Value, v = .agg cs.toArray ∧ R w cs x
theorem rd_agg {X : Type} {R : El X} {x : X} {v : Value} {A : Nat → Prop} {w : World} (h : Rd A (Agg R x v) w) : ∃ cs : List Value, v = .agg cs.toArray ∧ Rd A (fun w => R w cs x) w := by
  obtain ⟨cs, e, _⟩ := h.out
  refine ⟨cs, e, fun w2 h2 => ?_⟩
  obtain ⟨cs2, e2, h3⟩ := h w2 h2
  rw [e] at e2
  have : cs = cs2 := by simpa using e2
  rw [this]
  exact h3
theorem agg_rd {X : Type} {R : El X} {x : X} {cs : List Value} {A : Nat → Prop} {w : World} (h : Rd A (fun w => R w cs x) w) : Rd A (Agg R x (.agg cs.toArray)) w := h.imp fun _ h => ⟨cs, rfl, h⟩
theorem st_iff {w : World} {a b d e : Value} {s : St} : elSt w [a, b, d, e] s ↔ Ints w a s.cells ∧ Writes w b s.undo ∧ RowOf 4 elAn w d s.answers ∧ RowOf 6 elRq w e s.past := by
  constructor
  · rintro ⟨a', b', d', e', h, h1, h2, h3, h4⟩
    simp at h
    obtain ⟨rfl, rfl, rfl, rfl⟩ := h
    exact ⟨h1, h2, h3, h4⟩
  · rintro ⟨h1, h2, h3, h4⟩
    exact ⟨a, b, d, e, rfl, h1, h2, h3, h4⟩
theorem rd_st {A : Nat → Prop} {w : World} {cs : List Value} {s : St} (h : Rd A (fun w => elSt w cs s) w) : ∃ a b d e, cs = [a, b, d, e] ∧ Rd A (fun w => Ints w a s.cells) w ∧ Rd A (fun w => Writes w b s.undo) w ∧ Rd A (fun w => RowOf 4 elAn w d s.answers) w ∧ Rd A (fun w => RowOf 6 elRq w e s.past) w := by
  obtain ⟨a, b, d, e, rfl, _⟩ := h.out
  have h2 := h.imp fun _ h => st_iff.1 h
  exact ⟨a, b, d, e, rfl, h2.left, h2.right.left, h2.right.right.left, h2.right.right.right⟩
theorem st_rd {A : Nat → Prop} {w : World} {a b d e : Value} {s : St} (h1 : Rd A (fun w => Ints w a s.cells) w) (h2 : Rd A (fun w => Writes w b s.undo) w) (h3 : Rd A (fun w => RowOf 4 elAn w d s.answers) w) (h4 : Rd A (fun w => RowOf 6 elRq w e s.past) w) : Rd A (fun w => elSt w [a, b, d, e] s) w :=
  (h1.and (h2.and (h3.and h4))).imp fun _ h => st_iff.2 h

/-- All memory that A names and that was there, and all that is new but for n boxes. -/
theorem away (A : Nat → Prop) (s n : Nat) : ∃ B : Nat → Prop, (∀ k, k < s → A k → B k) ∧ (∀ k, s + n ≤ k → B k) ∧ (∀ k, s ≤ k → k < s + n → ¬ B k) ∧ ∀ k, B k → A k ∨ s ≤ k :=
  ⟨fun k => (A k ∧ k < s) ∨ s + n ≤ k, fun k h1 h2 => .inl ⟨h2, h1⟩, fun _ h => .inr h, fun k h1 h2 h => by rcases h with ⟨_, h⟩ | h <;> omega, fun k h => by rcases h with ⟨h, _⟩ | h; exact .inl h; exact .inr (by omega)⟩
theorem row_slice {w : World} {size n : Nat} {v : Value} {cs : List Value} (h : Row w size v n cs) : ∃ ao cap, v = .slice ao n cap := by
  obtain ⟨_, ao, cap, e, _⟩ := h
  exact ⟨ao, cap, e⟩
theorem rowOf_slice {X : Type} {R : El X} {w : World} {size : Nat} {v : Value} {xs : List X} (h : RowOf size R w v xs) : ∃ ao cap, v = .slice ao xs.length cap := by
  obtain ⟨_, _, h⟩ := h
  exact row_slice h

end Go.Mk

namespace Go.Mk
open Go Go.RowKit Go.ChangeShapes Go.WideShapes

section
variable {P : Program} {H : Type} {enc : TypeId × Value → H} {W : World} {X : Type}

theorem trod_row {t e : TypeId} {sz : Nat} (hsz : 0 < sz) (R : El X) (ht : P.underlying t = some (.slice e)) (hc : P.cellsOf e = sz)
    (hR : ∀ fuel cs z, DataW.trod enc P W 0 (fun _ => true) true fuel e cs = some z → cs.length = sz → ∃ x, R W cs x) {fuel : Nat} {v : Value} {z : DataW H × List MemPlace} (hz : DataW.trod enc P W 0 (fun _ => true) true fuel t [v] = some z) : ∃ xs : List X, RowOf sz R W v xs := by
  obtain ⟨d, p⟩ := z
  obtain ⟨xs, css, hr, hl, hq, -⟩ := read_slice (X := X) hsz (fun cs x => R W cs x) ht hc hR rfl hz
  exact ⟨xs, css, ⟨hl, hq⟩, hr⟩

theorem trod_ints {t e : TypeId} (ht : P.underlying t = some (.slice e)) (he : P.underlying e = some (.int .i64)) (hc : P.cellsOf e = 1) {fuel : Nat} {v : Value} {z : DataW H × List MemPlace}
    (hz : DataW.trod enc P W 0 (fun _ => true) true fuel t [v] = some z) : ∃ xs : List Int, Ints W v xs := by
  obtain ⟨xs, h⟩ := trod_row (X := Int) (by decide) (fun _ cs x => cs = [I x]) ht hc (fun fuel cs z hz _ => by
    obtain ⟨n, rfl, _⟩ := DataW.trod_int he hz
    exact ⟨n, rfl⟩) hz
  refine ⟨xs, ?_⟩
  have h2 := (rowOf_flat (f := fun (x : Int) => [I x]) (fun _ => rfl)).1 h
  rw [flatMap_one] at h2
  exact h2
theorem trod_writes {t e : TypeId} {f0 f1 : Field} (ht : P.underlying t = some (.slice e)) (he : P.underlying e = some (.struct #[f0, f1])) (hc : P.cellsOf e = 2)
    (h0 : P.underlying f0.type = some (.int .i64)) (h1 : P.underlying f1.type = some (.int .i64)) (o0 : f0.offset = 0) (o1 : f1.offset = 1) (c0 : P.cellsOf f0.type = 1) (c1 : P.cellsOf f1.type = 1) {fuel : Nat} {v : Value} {z : DataW H × List MemPlace}
    (hz : DataW.trod enc P W 0 (fun _ => true) true fuel t [v] = some z) : ∃ l : List (Int × Int), Writes W v l := by
  obtain ⟨xs, h⟩ := trod_row (X := Int × Int) (by decide) (fun _ cs x => cs = [I x.1, I x.2]) ht hc (fun fuel cs z hz _ => trod_pair he hc h0 h1 o0 o1 c0 c1 hz) hz
  exact ⟨xs, (rowOf_flat (f := fun (x : Int × Int) => [I x.1, I x.2]) (fun _ => rfl)).1 h⟩

/-- What a store's type is made of. -/
structure StTypes (P : Program) (st ti int tw wr ta an ter tr rq cl rp : TypeId) : Prop where
  whole : ∃ f0 f1 f2 f3 : Field, P.underlying st = some (.struct #[f0, f1, f2, f3]) ∧ f0.type = ti ∧ f1.type = tw ∧ f2.type = ta ∧ f3.type = tr ∧ f0.offset = 0 ∧ f1.offset = 1 ∧ f2.offset = 2 ∧ f3.offset = 3
  sc : P.cellsOf st = 4 ∧ P.cellsOf ti = 1 ∧ P.cellsOf tw = 1 ∧ P.cellsOf ta = 1 ∧ P.cellsOf tr = 1
  ints : P.underlying ti = some (.slice int) ∧ P.underlying int = some (.int .i64) ∧ P.cellsOf int = 1 ∧ P.underlying ter = some (.int .i64) ∧ P.cellsOf ter = 1
  writes : P.underlying tw = some (.slice wr) ∧ P.cellsOf wr = 2 ∧ ∃ f0 f1 : Field, P.underlying wr = some (.struct #[f0, f1]) ∧ f0.type = int ∧ f1.type = int ∧ f0.offset = 0 ∧ f1.offset = 1
  reply : P.cellsOf rp = 2 ∧ ∃ f0 f1 : Field, P.underlying rp = some (.struct #[f0, f1]) ∧ f0.type = ter ∧ f1.type = int ∧ f0.offset = 0 ∧ f1.offset = 1
  call : P.cellsOf cl = 4 ∧ ∃ f0 f1 f2 f3 : Field, P.underlying cl = some (.struct #[f0, f1, f2, f3]) ∧ f0.type = int ∧ f1.type = int ∧ f2.type = int ∧ f3.type = int ∧ f0.offset = 0 ∧ f1.offset = 1 ∧ f2.offset = 2 ∧ f3.offset = 3
  anss : P.underlying ta = some (.slice an) ∧ P.cellsOf an = 4 ∧ ∃ f0 f1 f2 : Field, P.underlying an = some (.struct #[f0, f1, f2]) ∧ f0.type = int ∧ f1.type = int ∧ f2.type = rp ∧ f0.offset = 0 ∧ f1.offset = 1 ∧ f2.offset = 2
  reqs : P.underlying tr = some (.slice rq) ∧ P.cellsOf rq = 6 ∧ ∃ f0 f1 f2 : Field, P.underlying rq = some (.struct #[f0, f1, f2]) ∧ f0.type = int ∧ f1.type = int ∧ f2.type = cl ∧ f0.offset = 0 ∧ f1.offset = 1 ∧ f2.offset = 2

theorem trod_store {st ti int tw wr ta an ter tr rq cl rp : TypeId} (T : StTypes P st ti int tw wr ta an ter tr rq cl rp) {fuel : Nat} {cs : List Value} {z : DataW H × List MemPlace}
    (hz : DataW.trod enc P W 0 (fun _ => true) true fuel st cs = some z) : ∃ a b d e s, cs = [a, b, d, e] ∧ elSt W [a, b, d, e] s := by
  obtain ⟨f0, f1, f2, f3, hst, rfl, rfl, rfl, rfl, o0, o1, o2, o3⟩ := T.whole
  obtain ⟨s0, s1, s2, s3, s4⟩ := T.sc
  obtain ⟨i0, i1, i2, i3, i4⟩ := T.ints
  obtain ⟨w0, w1, g0, g1, w2, rfl, w4, w5, w6⟩ := T.writes
  obtain ⟨p0, r0, r1, p1, rfl, p3, p4, p5⟩ := T.reply
  obtain ⟨c0, k0, k1, k2, k3, c1, c2, c3, c4, c5, c6, c7, c8, c9⟩ := T.call
  obtain ⟨n0, n1, m0, m1, m2, n2, n3, n4, n5, n6, n7, n8⟩ := T.anss
  obtain ⟨q0, q1, l0, l1, l2, q2, q3, q4, q5, q6, q7, q8⟩ := T.reqs
  obtain ⟨y0, y1, y2, y3, m, hx, hcl, t0, t1, t2, t3⟩ := Go.Joins.trod_struct4 hst hz
  rw [s0] at hcl
  obtain ⟨u0, u1, u2, u3, rfl⟩ : ∃ u0 u1 u2 u3, cs = [u0, u1, u2, u3] := by
    match cs, hcl with
    | [u0, u1, u2, u3], _ => exact ⟨u0, u1, u2, u3, rfl⟩
  rw [o0, s1] at t0
  rw [o1, s2] at t1
  rw [o2, s3] at t2
  rw [o3, s4] at t3
  obtain ⟨xc, hc⟩ := trod_ints i0 i1 i2 t0
  obtain ⟨xu, hu⟩ := trod_writes w0 w2 w1 i1 (by rw [w4]; exact i1) w5 w6 i2 (by rw [w4]; exact i2) t1
  obtain ⟨xa, ha⟩ := trod_row (X := An) (by decide) elAn n0 n1 (fun fuel cs z hz _ => trod_ans n2 n1 (by rw [n3]; exact i1) (by rw [n4]; exact i1) (by rw [n5]; exact p1) n6 n7 n8 (by rw [n3]; exact i2) (by rw [n4]; exact i2) (by rw [n5]; exact p0) i3 (by rw [p3]; exact i1) p4 p5 i4 (by rw [p3]; exact i2) hz) t2
  obtain ⟨xp, hp⟩ := trod_row (X := Rq) (by decide) elRq q0 q1 (fun fuel cs z hz _ => trod_req q2 q1 (by rw [q3]; exact i1) (by rw [q4]; exact i1) (by rw [q5]; exact c1) q6 q7 q8 (by rw [q3]; exact i2) (by rw [q4]; exact i2) (by rw [q5]; exact c0) (by rw [c2]; exact i1) (by rw [c3]; exact i1) (by rw [c4]; exact i1) (by rw [c5]; exact i1) c6 c7 c8 c9 (by rw [c2]; exact i2) (by rw [c3]; exact i2) (by rw [c4]; exact i2) (by rw [c5]; exact i2) hz) t3
  exact ⟨u0, u1, u2, u3, ⟨xc, xu, xa, xp⟩, rfl, st_iff.2 ⟨hc, hu, ha, hp⟩⟩

/-- A store by value. -/
theorem read_store {st ti int tw wr ta an ter tr rq cl rp : TypeId} (T : StTypes P st ti int tw wr ta an ter tr rq cl rp) {v : Value} {d : DataW H} {p : List MemPlace}
    {b0 : Nat} (hv : Value.okWide P W .any b0 st v) (h : DataW.Trod enc P W 0 (fun _ => true) true st v d p) : ∃ a b d e s, v = .agg #[a, b, d, e] ∧ elSt W [a, b, d, e] s := by
  obtain ⟨f0, f1, f2, f3, hst, -⟩ := T.whole
  obtain ⟨cs, rfl, hsz⟩ := okWide_struct hst hv
  obtain ⟨fuel, hf⟩ := h
  obtain ⟨a, b, d, e, s, hx, hs⟩ := trod_store T hf
  refine ⟨a, b, d, e, s, ?_, hs⟩
  simp only [Value.cells] at hx
  rw [show cs = #[a, b, d, e] from by cases cs; simp_all]

end
end Go.Mk

namespace Go.Mk
open Go Go.RowKit

/-- A slice in memory of its own that has no room more. -/
def FullOf (base e size n : Nat) (cs : List Value) (v : Value) (w : World) : Prop := ∃ g, v = .slice (some ⟨g, 0, none⟩) n n ∧ w.ownsRow base e size v n cs
theorem monoFull (base e size n : Nat) (cs : List Value) : ∀ v, MonoP (FullOf base e size n cs v) := fun _ _ _ he ⟨g, e, h⟩ => ⟨g, e, owns_ext h he⟩
theorem full_lit {w : World} {base e size : Nat} (cs : Array Value) (n : Nat) (hb : base ≤ w.heap.size) (hm : n ≤ maxLen) (hc : cs.size = n * size) : FullOf base e size n cs.toList (.slice (some ⟨w.heap.size, 0, none⟩) n n) (w.alloc (.cells cs e)) :=
  ⟨_, rfl, World.ownsRow_lit (base := base) (e := e) (size := size) w cs n hb hm hc⟩

theorem run_append_full {P : Program} (w : World) (base : Nat) (t ty e : TypeId) (i : TypeInfo) (z : Value) (size bytes : Nat) (ht : P.underlying t = some (.slice e)) (hi : P.info? e = some i) (hz : i.zero = some z)
    (hsize : i.size = size) (hby : i.bytes = bytes) (hzs : z.cells.size = size) (hsz : 0 < size)
    (v : Value) (n : Nat) (xs : List Value) (hown : FullOf base e size n xs v w) (u : Value) (m : Nat) (news : List Value) (hu : Row w size u m news) (h1 : ∀ u ∈ news, u.oneCell' = true)
    (hbytes : (n + m) * bytes ≤ 140737488355328) (hpos : 0 < bytes) (hbase : base ≤ w.heap.size) :
    ∃ v' w', (Builtin.append_ #[t, t] ty #[v, u]).run P w = .ok v' w' ∧ w'.ownsRow base e size v' (n + m) (xs ++ news) ∧ Ext w w' := by
  obtain ⟨g, rfl, hown⟩ := hown
  have h63 : n + m ≤ maxLen := by
    have : n + m ≤ (n + m) * bytes := Nat.le_mul_of_pos_right _ hpos
    unfold maxLen
    omega
  obtain ⟨hl, ao, cap, rfl, hc, hm, h0, hcell⟩ := hu
  by_cases hm0 : m = 0
  · subst hm0
    have hn : news = [] := List.eq_nil_of_length_eq_zero (by simpa using hl)
    subst hn
    cases ao with
    | none =>
      have hcap := h0 rfl
      subst hcap
      exact ⟨_, w, run_append_owned_none w base t ty e i size ht hi _ n xs hown, by simpa using hown, Ext.refl _⟩
    | some ad =>
      rcases hown.2 with ⟨e', _⟩ | ⟨g', cap', cur, e', hbg, hg, hnc, hcm, hcs, htake⟩
      · cases e'
      · simp at e'
        obtain ⟨rfl, rfl⟩ := e'
        subst hsize
        have hr := run_append_room (P := P) w t ty e i ht hi g n n cur hg ad 0 cap [] (by simp) (fun j u hj => by simp at hj) (by simp) (by omega) (by simp; rw [hcs]; exact Nat.le_refl _)
        refine ⟨_, _, hr, ?_, ?_⟩
        · have hsame : (w.setRow g (cur.toList.take (n * i.size) ++ [] ++ cur.toList.drop (n * i.size + ([] : List Value).length)).toArray).heap[g]? = some (.cells cur e) := by
            rw [setRow_heap w g cur _ e _ hg]
            simp
          refine ⟨by simp [hown.1], .inr ⟨g, n, cur, rfl, hbg, hsame, by omega, hcm, hcs, by simpa using htake⟩⟩
        · refine ⟨rfl, rfl, rfl, by simp [World.setRow], fun k hk => ?_⟩
          by_cases hkg : k = g
          · subst hkg
            rw [setRow_heap w k cur _ e _ hg, hg]
            simp
          · exact setRow_other w g k _ hkg
  · cases ao with
    | none => have := h0 rfl; omega
    | some ad =>
      obtain ⟨v', w', hrun, r1, r2⟩ := run_append_arg_grows (P := P) w t ty e i z size bytes ht hi hz hsize hby hzs hsz ⟨g, 0, none⟩ n n xs hown.1 (hown.cells (g := g) rfl) ad m cap news hl (fun j u hj => by
        obtain ⟨b, off, e', hc'⟩ := hcell j u hj
        simp only [Option.some.injEq] at e'
        subst e'
        rw [add_plain]; exact hc') (by omega) h63 hbytes
      refine ⟨v', w', hrun, ?_, ⟨r2.os, r2.tape, r2.output, r2.size, fun k hk => r2.block k hk (by simp)⟩⟩
      obtain ⟨q1, q2⟩ := r1
      refine ⟨q1, ?_⟩
      rcases q2 with h | ⟨g', cap', cur, rfl, hb, hr⟩
      · exact .inl h
      · exact .inr ⟨g', cap', cur, rfl, Nat.le_trans hbase hb, hr⟩

theorem makes_append {P : Program} {o : Oper} {a : Act} {w w' : World} {T : Value → World → Prop} {s x : Operand} {t : TypeId} {v u v' : Value}
    (ho : o.op = .call { callee := .builtin .append, args := #[s, x], argTypes := #[t, t] }) (hs : a.eval s = v) (hx : a.eval x = u) (hrun : (Builtin.append_ #[t, t] o.type #[v, u]).run P w = .ok v' w') (he : Ext w w') (hT : T v' w') : makes P o a w T := by
  have : (execOp a.eval o).run P w = .ok (.value v') w' := by simp [execOp, ho, resolve, invoke, builtin, hs, hx, hrun, Result.andThen]
  unfold makes
  rw [this]
  exact ⟨he, hT⟩

theorem run_append_op {P : Program} {o : Oper} {a : Act} {w w' : World} {s x : Operand} {t : TypeId} {v u v' : Value}
    (ho : o.op = .call { callee := .builtin .append, args := #[s, x], argTypes := #[t, t] }) (hs : a.eval s = v) (hx : a.eval x = u) (hrun : (Builtin.append_ #[t, t] o.type #[v, u]).run P w = .ok v' w') : (execOp a.eval o).run P w = .ok (.value v') w' := by
  simp [execOp, ho, resolve, invoke, builtin, hs, hx, hrun, Result.andThen]

end Go.Mk

namespace Go.Mk
open Go Go.RowKit

/-- Must operation i come ahead of j? -/
def ancB (ops : Array Oper) : Nat → Nat → Nat → Bool
  | 0, _, _ => false
  | f + 1, j, i => match ops[j]? with
    | some oj => oj.after.any fun e => Region.binds .any e && (e.on == i || ancB ops f e.on i)
    | none => false

section
variable (P : Program) (w0 : World) (ops : Array Oper) (kd : Nat → Kind) (x : Nat) (Tx : Value → World → Prop)

def okW (o : Oper) (a : Act) (F : Fm) : Prop := ∀ w, Ext w0 w → knows F ops o w → ∃ v w', (execOp a.eval o).run P w = .ok (.value v) w' ∧ Ext w0 w' ∧ Tx v w'
def dropTo (d : Option Tmp) (φ : World → Prop) : Fm := fun t w => if d = some t then φ w else True
def opW (i : Nat) (K : Act → Fm → Prop) (a : Act) (F : Fm) : Prop :=
  if i = x then ∃ o, ops[x]? = some o ∧ o.guard = none ∧ okW P w0 ops Tx o a F ∧ ∀ v, K (a.put o.dst v) (dropTo o.dst (Tx v)) else opM P w0 ops kd i K a F

def headW (n : Nat) (L : Array Bool → Act → Fm → Prop) : Nat → Array Bool → Act → Fm → Prop
  | 0, listed, a, F => L listed a F
  | f + 1, listed, a, F =>
    Region.ready .any ops listed ≠ [] ∧ ∀ i ∈ Region.ready .any ops listed, i < n ∧ opW P w0 ops kd x Tx i (headW n L f (listed.setIfInBounds i true)) a F
end

section
variable {P : Program} {w0 : World} {ops : Array Oper} {kd : Nat → Kind} {x : Nat} {Tx : Value → World → Prop}

theorem anc_listed {n : Nat} {listed : Array Bool} (inv : HeadInv .any ops n listed) : ∀ (f j i : Nat), (∀ oj, ops[j]? = some oj → ∀ e ∈ oj.after, Region.binds .any e = true → listed.getD e.on false = true) → ancB ops f j i = true → listed.getD i false = true
  | 0, _, _, _, h => by cases h
  | f + 1, j, i, hall, h => by
    unfold ancB at h
    split at h
    · rename_i oj hoj
      obtain ⟨e, he, hb⟩ := Array.any_eq_true'.1 h
      simp only [Bool.and_eq_true, Bool.or_eq_true, beq_iff_eq] at hb
      have h1 := hall oj hoj e he hb.1
      rcases hb.2 with h2 | h2
      · rw [← h2]; exact h1
      · exact anc_listed inv f e.on i (fun ok hok e2 he2 hb2 => inv.closed e.on ok hok h1 e2 he2 hb2) h2
    · cases h

theorem dropTo_upd {d d2 : Option Tmp} {φ : World → Prop} (h : ∀ t, d = some t → d2 ≠ some t) : upd (dropTo d φ) d2 (fun _ => True) = dropTo d φ := by
  funext t w
  unfold upd dropTo
  by_cases h2 : d2 = some t
  · rw [if_pos h2, if_neg (fun e => h t e h2)]
  · rw [if_neg h2]

theorem okW_put {o : Oper} {a : Act} {F : Fm} {d : Option Tmp} {v : Value} {φ : World → Prop} (hs : ∀ cs b, o.op ≠ .select cs b) (h : ∀ t, d = some t → t ∉ o.looksAt ops) (hk : okW P w0 ops Tx o (a.put d v) (upd F d φ)) : okW P w0 ops Tx o a F := by
  have he := execOp_put (ops := ops) o hs a d v h
  have hkn := knows_upd (ops := ops) (F := F) (φ := φ) h
  intro w hw hkw
  have := hk w hw (by rw [hkn]; exact hkw)
  rw [he] at this
  exact this

theorem OkO_free {o : Oper} {a : Act} {F F' : Fm} (h : OkO P w0 ops none o a F) : OkO P w0 ops none o a F' := h
theorem ValO_true {o : Oper} {a : Act} {v : Value} {φ : World → Prop} (h : ValO P w0 ops none o a v φ) : φ = fun _ => True := by
  rcases h with ⟨_, _, h⟩ | ⟨_, _, h⟩ <;> exact h

theorem headW_first {n i : Nat} {oi : Oper} {L : Array Bool → Act → Fm → Prop} (hi : ops[i]? = some oi) (hsel : ∀ (j : Nat) (o : Oper) cs b, ops[j]? = some o → o.op ≠ .select cs b)
    (hs : Region.sinkB .any ops n = true) (hc : Region.chainB .any ops n = true) (hn : n < ops.size) (hin : i < n) (hix : i ≠ x) (hpure : kd i = none ∨ ancB ops ops.size x i = true)
    (hdone : ∀ listed a F, L listed a F → ∀ j ∈ Region.ready .any ops listed, n ≤ j) :
    ∀ (f : Nat) (listed : Array Bool) (a : Act) (F : Fm), HeadInv .any ops n listed →
      (∀ j oj, ops[j]? = some oj → j ≠ i → listed.getD j true = false → (∀ e ∈ oj.after, Region.binds .any e = true → e.on ≠ i) → oi.apart ops oj = true) →
      i ∈ Region.ready .any ops listed → OkO P w0 ops (kd i) oi a F →
      (∀ v φ, ValO P w0 ops (kd i) oi a v φ → headW P w0 ops kd x Tx n L f (listed.setIfInBounds i true) (a.put oi.dst v) (upd F oi.dst φ)) →
      headW P w0 ops kd x Tx n L (f + 1) listed a F := by
  intro f
  induction f with
  | zero =>
    intro listed a F inv _ hr hok H
    have hun := (mem_ready.1 hr).1
    refine ⟨fun h => (by rw [h] at hr; cases hr), fun j hj => ?_⟩
    have hjn : j < n := by
      rcases Nat.lt_or_ge j n with h | h
      · exact h
      · exact absurd hj (tail_waits hs hc hn inv _ i rfl hin hun j h)
    refine ⟨hjn, ?_⟩
    by_cases hji : j = i
    · subst hji
      unfold opW
      rw [if_neg hix]
      unfold opM
      rw [hi]
      exact ⟨hok, H⟩
    · obtain ⟨v, φ, hv⟩ := ValO_ex hok
      have := hdone _ _ _ (H v φ hv) j (ready_mono hj hji)
      omega
  | succ f ih =>
    intro listed a F inv hfree hr hok H
    have hun := (mem_ready.1 hr).1
    refine ⟨fun h => (by rw [h] at hr; cases hr), fun j hj => ?_⟩
    have hjn : j < n := by
      rcases Nat.lt_or_ge j n with h | h
      · exact h
      · exact absurd hj (tail_waits hs hc hn inv _ i rfl hin hun j h)
    refine ⟨hjn, ?_⟩
    by_cases hji : j = i
    · subst hji
      unfold opW
      rw [if_neg hix]
      unfold opM
      rw [hi]
      exact ⟨hok, H⟩
    obtain ⟨hjun, oj, hoj, hall⟩ := mem_ready.1 hj
    have hnot : ∀ e ∈ oj.after, Region.binds .any e = true → e.on ≠ i := fun e he hb heq => by
      have h1 := hall e he hb
      rw [heq, getD_both hun] at h1
      cases h1
    obtain ⟨a1, a2, a3⟩ := Oper.apart_spec (hfree j oj hoj hji hjun hnot)
    have hsi : ∀ cs b, oi.op ≠ .select cs b := fun cs b => hsel i oi cs b hi
    have hsj : ∀ cs b, oj.op ≠ .select cs b := fun cs b => hsel j oj cs b hoj
    have hfree' : ∀ k ok, ops[k]? = some ok → k ≠ i → (listed.setIfInBounds j true).getD k true = false →
        (∀ e ∈ ok.after, Region.binds .any e = true → e.on ≠ i) → oi.apart ops ok = true := fun k ok hk hki hun hno => by
      refine hfree k ok hk hki ?_ hno
      by_cases hjk : j = k
      · subst hjk; exact hjun
      · rw [getD_set_ne true hjk] at hun; exact hun
    by_cases hjx : j = x
    · subst hjx
      have hkn : kd i = none := by
        rcases hpure with h | h
        · exact h
        · have := anc_listed inv _ _ _ (fun ok hok e he hb => by
            have : ok = oj := Option.some.inj (hok.symm.trans hoj)
            subst this
            exact hall e he hb) h
          rw [getD_both hun] at this
          cases this
      rw [hkn] at hok H ih
      have at_x : ∀ v φ, ValO P w0 ops none oi a v φ → oj.guard = none ∧ okW P w0 ops Tx oj (a.put oi.dst v) (upd F oi.dst φ) ∧ ∀ u, headW P w0 ops kd j Tx n L f ((listed.setIfInBounds i true).setIfInBounds j true) ((a.put oi.dst v).put oj.dst u) (dropTo oj.dst (Tx u)) := fun v φ hv => by
        have := ((H v φ hv).2 j (ready_mono hj hji)).2
        unfold opW at this
        rw [if_pos rfl] at this
        obtain ⟨o, ho, h1, h2, h3⟩ := this
        have : o = oj := Option.some.inj (ho.symm.trans hoj)
        subst this
        exact ⟨h1, h2, h3⟩
      obtain ⟨v0, φ0, hv0⟩ := ValO_ex hok
      unfold opW
      rw [if_pos rfl]
      refine ⟨oj, hoj, (at_x v0 φ0 hv0).1, okW_put hsj a1 (at_x v0 φ0 hv0).2.1, fun u => ?_⟩
      refine ih (listed.setIfInBounds j true) _ _ (inv.set hj hjn) hfree' (ready_mono hr (Ne.symm hji)) (OkO_free ((OkO_put (F := F) (φ := fun _ => True) hsi a3).2 hok)) fun v φ hv => ?_
      have hv' := (ValO_put hsi a3).1 hv
      have hφ := ValO_true hv
      subst hφ
      rw [dropTo_upd (fun t h1 h2 => a2 t h2 h1), Array.setIfInBounds_comm _ _ hji, ← Act.put_comm a v u a2]
      exact (at_x v _ hv').2.2 u
    · have at_j : ∀ v φ, ValO P w0 ops (kd i) oi a v φ → OkO P w0 ops (kd j) oj (a.put oi.dst v) (upd F oi.dst φ) ∧
          ∀ u ψ, ValO P w0 ops (kd j) oj (a.put oi.dst v) u ψ →
            headW P w0 ops kd x Tx n L f ((listed.setIfInBounds i true).setIfInBounds j true) ((a.put oi.dst v).put oj.dst u) (upd (upd F oi.dst φ) oj.dst ψ) := fun v φ hv => by
        have := ((H v φ hv).2 j (ready_mono hj hji)).2
        unfold opW at this
        rw [if_neg hjx] at this
        unfold opM at this
        rw [hoj] at this
        exact this
      unfold opW
      rw [if_neg hjx]
      unfold opM
      rw [hoj]
      refine ⟨?_, fun u ψ hu => ?_⟩
      · obtain ⟨v, φ, hv⟩ := ValO_ex hok
        exact (OkO_put hsj a1).1 (at_j v φ hv).1
      · refine ih (listed.setIfInBounds j true) _ _ (inv.set hj hjn) hfree' (ready_mono hr (Ne.symm hji)) ((OkO_put hsi a3).2 hok) fun v φ hv => ?_
        have hv' := (ValO_put hsi a3).1 hv
        have := (at_j v φ hv').2 u ψ ((ValO_put hsj a1).2 hu)
        rw [Array.setIfInBounds_comm _ _ hji, ← Act.put_comm a v u a2, ← upd_comm F φ ψ a2]
        exact this

theorem headW_lex {g : Nat} {Lq : Act → Fm → Prop} (K : List Kind) (hsel : Region.noSelect ops = true) (hs : Region.sinkB .any ops (x + 1) = true) (hc : Region.chainB .any ops (x + 1) = true) (hn : x + 1 < ops.size)
    (hP : ∀ i, i < x → K.getD i none = none ∨ ancB ops ops.size x i = true) :
    ∀ (l : List Oper) (ks : List Kind) (k : Nat) (listed : Array Bool) (a : Act) (F : Fm), (∀ j, j < l.length → l[j]? = ops[k + j]?) → (ks = K.drop k) → k + l.length = x → HeadInv .any ops (x + 1) listed →
    Region.lexHead .any ops g (l.length + 1) k listed = true →
    wpM P w0 ops (fun a' F' => ∃ o, ops[x]? = some o ∧ o.guard = none ∧ okW P w0 ops Tx o a' F' ∧ ∀ v, Lq (a'.put o.dst v) (dropTo o.dst (Tx v))) l ks a F →
    headW P w0 ops (fun i => K.getD i none) x Tx (x + 1) (fun listed' a' F' => Region.seqB .any ops g (x + 1) listed' = true ∧ Lq a' F') (l.length + 1) listed a F
  | [], _, k, listed, a, F, _, _, hk, inv, hB, h => by
    have hkx : k = x := by simpa using hk
    subst hkx
    simp only [List.length_nil, Region.lexHead, Bool.and_eq_true] at hB
    obtain ⟨⟨hr, hf⟩, hB'⟩ := hB
    have hr' : k ∈ Region.ready .any ops listed := by simpa using hr
    have hun := (mem_ready.1 hr').1
    refine ⟨fun h => (by rw [h] at hr'; cases hr'), fun j hj => ?_⟩
    have hjn : j < k + 1 := by
      rcases Nat.lt_or_ge j (k + 1) with h | h
      · exact h
      · exact absurd hj (tail_waits hs hc hn inv _ k rfl (by omega) hun j h)
    refine ⟨hjn, ?_⟩
    have hjk : j = k := by
      by_cases hjk : j = k
      · exact hjk
      · have := seqB_ready hB' j (ready_mono hj hjk)
        omega
    subst hjk
    unfold opW
    rw [if_pos rfl]
    obtain ⟨o, ho, h1, h2, h3⟩ := h
    exact ⟨o, ho, h1, h2, fun v => ⟨hB', h3 v⟩⟩
  | o :: l, ks, k, listed, a, F, hl, hks, hk, inv, hB, h => by
    have h0 : ops[k]? = some o := by simpa using (hl 0 (by simp)).symm
    simp only [List.length_cons, Region.lexHead, Bool.and_eq_true] at hB
    obtain ⟨⟨hr, hf⟩, hB'⟩ := hB
    have hkx : k < x := by simp only [List.length_cons] at hk; omega
    have hr' : k ∈ Region.ready .any ops listed := by simpa using hr
    have hd : ks.headD none = K.getD k none := by
      rw [hks, List.headD_eq_head?_getD, List.head?_drop, List.getD_eq_getElem?_getD]
    obtain ⟨hok, hrest⟩ := h
    rw [hd] at hok hrest
    exact headW_first h0 (Region.noSelect_spec hsel) hs hc hn (by omega) (by omega) (hP k hkx) (fun listed' a' F' hL => seqB_ready hL.1) (l.length + 1) listed a F inv (Region.free_spec h0 hf) hr' hok fun v φ hv =>
      headW_lex K hsel hs hc hn hP l ks.tail (k + 1) _ _ _ (fun j hj => by have := hl (j + 1) (by simp; omega); simpa [Nat.add_assoc, Nat.add_comm 1 j] using this) (by rw [hks]; simp) (by simp only [List.length_cons] at hk; omega) (inv.set hr' (by omega)) (by simpa [Region.lexHead] using hB') (hrest v φ hv)

theorem any_of_headW {n g : Nat} {L : Array Bool → Act → Fm → Prop} {Q' : Exit → Act → World → Prop} (hT : ∀ i T, kd i = some (.inr T) → ∀ v, MonoP (T v)) (hTx : ∀ v, MonoP (Tx v))
    (hL : ∀ listed a F w, Ext w0 w → (∀ t, F t w) → L listed a F → wpAny P .any ops Q' g listed a w) :
    ∀ (f : Nat) (listed : Array Bool) (a : Act) (F : Fm) (w : World), Ext w0 w → (∀ t, F t w) → (∀ t, MonoP (F t)) → headW P w0 ops kd x Tx n L f listed a F → wpAny P .any ops Q' (f + g) listed a w
  | 0, listed, a, F, w, hw, hF, _, h => by rw [Nat.zero_add]; exact hL _ _ _ _ hw hF h
  | f + 1, listed, a, F, w, hw, hF, hM, h => by
    rw [show f + 1 + g = (f + g) + 1 by omega]
    refine ⟨fun h0 => absurd h0 h.1, fun i hi => ?_⟩
    have hi' := (h.2 i hi).2
    unfold opW at hi'
    by_cases hix : i = x
    · rw [if_pos hix] at hi'
      rw [hix]
      obtain ⟨o, ho, hg, hok, hnext⟩ := hi'
      rw [hix] at hnext
      obtain ⟨v, w', hrun, he, ht⟩ := hok w hw (fun t _ => hF t)
      unfold wpOp
      rw [ho]
      simp only []
      have hwt : Region.wanted o (yielded ops a.tmps) = true := by simp [Region.wanted, hg]
      rw [if_pos hwt]
      refine .inl ?_
      unfold Oper.wp
      rw [hrun]
      simp only [Oper.upon]
      refine any_of_headW hT hTx hL f _ _ _ w' he ?_ ?_ (hnext v)
      · intro t
        unfold dropTo
        split
        · exact ht
        · trivial
      · intro t w1 w2 h12
        unfold dropTo
        split
        · exact hTx v _ _ h12
        · exact id
    · rw [if_neg hix] at hi'
      exact opM_sound hT hw hF hM (fun a F w hw hF hM h => any_of_headW hT hTx hL f _ a F w hw hF hM h) hi'

theorem wpM_imp {Q Q' : Act → Fm → Prop} (hq : ∀ a F, Q a F → Q' a F) : ∀ (l : List Oper) (ks : List Kind) (a : Act) (F : Fm), wpM P w0 ops Q l ks a F → wpM P w0 ops Q' l ks a F
  | [], _, a, F, h => hq a F h
  | _ :: l, ks, _, _, h => ⟨h.1, fun v φ hv => wpM_imp hq l ks.tail _ _ (h.2 v φ hv)⟩

/-- ONE WALK SERVES EVERY ORDER: the first x operations, then the one that writes (x), then the tail as it stands. -/
theorem wp_region_mono_weak {id : Nat} {Q : Exit → Act → World → Prop} {a : Act} {w : World} {l : List Oper} (x : Nat) (K : List Kind) (Tx : Value → World → Prop) (hm : P.follows .mixedOrders = true) (hB : Region.lexTailB .any l.toArray (x + 1) = true)
    (hP : ((List.range x).all fun i => (K.getD i none).isNone || ancB l.toArray l.toArray.size x i) = true) (hT : monoAll K) (hTx : ∀ v, MonoP (Tx v))
    (h : wpM P w l.toArray (fun a' F => ∃ o d, l.toArray[x]? = some o ∧ o.guard = none ∧ o.dst = some d ∧ okW P w l.toArray Tx o a' F ∧ ∀ v w', Ext w w' → Tx v w' → wpList P l.toArray Q (l.drop (x + 1)) (a'.put o.dst v) w') (l.take x) K a (fun _ _ => True)) :
    (Code.region id l.toArray true).wp P Q a w := by
  replace hT := monoAll_mem hT
  simp only [Region.lexTailB, Bool.and_eq_true, decide_eq_true_eq] at hB
  obtain ⟨⟨⟨⟨hsel, hn⟩, hs⟩, hc⟩, hlex⟩ := hB
  have hn' : x + 1 < l.length := by simpa using hn
  have htl : (l.take x).length = x := by simp; omega
  have hdl : (l.drop (x + 1)).length = l.toArray.size - (x + 1) := by simp
  have inv0 : HeadInv .any l.toArray (x + 1) (Array.replicate l.toArray.size false) :=
    ⟨by simp, fun j oj _ hl => (by rw [getD_replicate_false] at hl; cases hl), fun t _ ht => getD_in (by simpa using ht) (getD_replicate_false _ _)⟩
  have H := headW_lex (P := P) (w0 := w) (Tx := Tx) (g := l.toArray.size - (x + 1)) (Lq := fun a' F => ∀ w', Ext w w' → (∀ t, F t w') → wpList P l.toArray Q (l.drop (x + 1)) a' w') K hsel hs hc hn (fun i hi => by
      have := List.all_eq_true.1 hP i (List.mem_range.2 hi)
      simp only [Bool.or_eq_true, Option.isNone_iff_eq_none] at this
      exact this) (l.take x) K 0 _ a (fun _ _ => True) (fun j hj => by
    have hj' : j < x := by rw [htl] at hj; exact hj
    simp [hj']) (by simp) (by simpa using htl) inv0 (by rw [htl]; exact hlex) (by
      refine wpM_imp (fun a' F ⟨o, d, ho, hg, hd, hok, hq⟩ => ?_) _ _ _ _ h
      exact ⟨o, ho, hg, hok, fun v w' he hF => hq v w' he (by have := hF d; unfold dropTo at this; rw [if_pos hd] at this; exact this)⟩)
  refine wp_region_any hm ?_
  have := any_of_headW (Q' := Q) (g := l.toArray.size - (x + 1)) (mono_of_list hT) hTx (fun listed a' F w' hw hF hL => by
    have := wpAny_of_seq (md := .any) (Q' := Q) (l.drop (x + 1)) (x + 1) listed a' w' (fun j => by simp [List.getElem?_drop]) (by rw [hdl]; exact hL.1) (hL.2 w' hw hF)
    rwa [hdl] at this) _ _ _ _ ({ w with drawn := w.drawn + 1 }) ((Ext.refl w).drew) (fun _ => trivial) (fun _ _ _ _ h => h) H
  rw [htl, show x + 1 + (l.toArray.size - (x + 1)) = l.toArray.size by omega] at this
  exact this

end
end Go.Mk

namespace Go.Mk
open Go Go.RowKit

theorem run_copy_sized {P : Program} (w : World) (t ty e : TypeId) (size : Nat) (hu : P.underlying t = some (.slice e)) (hsz : (P.info? e).map (·.size) = some size) (base g n : Nat) (v : Value) (cs old : List Value)
    (hown : w.ownsRow base e size (.slice (some ⟨g, 0, none⟩) n n) n old) (hv : Row w size v n cs) (h1 : ∀ u ∈ cs, u.oneCell' = true) :
    ∃ w', (Builtin.copy_ #[t, t] ty #[.slice (some ⟨g, 0, none⟩) n n, v]).run P w = .ok (goInt n) w' ∧ w'.ownsRow base e size (.slice (some ⟨g, 0, none⟩) n n) n cs ∧ w.grownBy w' (some g) := by
  obtain ⟨hl, ao, cap, rfl, hc, hm, hnil, hcell⟩ := hv
  obtain ⟨ho, ho'⟩ := hown
  rcases ho' with ⟨h, _⟩ | ⟨g', cap', cur, h, hb, hg, hn, hm', hs, ht⟩
  · simp at h
  simp only [Value.slice.injEq, Option.some.injEq, Addr.mk.injEq, and_true, true_and] at h
  obtain ⟨rfl, rfl⟩ := h
  cases hq : P.info? e with
  | none => simp [hq] at hsz
  | some i =>
    have hi : i.size = size := by simpa [hq] using hsz
    cases ao with
    | none =>
      have hcap := hnil rfl
      subst hcap
      have h0 : n = 0 := by omega
      subst h0
      have : cs = [] := List.eq_nil_of_length_eq_zero (by simpa using hl)
      subst this
      refine ⟨w, by simp [Builtin.copy_, run_underlying hu, Builtin.lenOf, Builtin.firstCells, sizeOf, typeInfo, hq, storeCells], ⟨by simp, .inr ⟨g, 0, cur, rfl, hb, hg, Nat.le_refl _, hm', by simpa using hs, by simp⟩⟩, World.grownBy.refl _ _⟩
    | some ad =>
      have hsrc : ∀ j u, cs[j]? = some u → w.cell? (ad.add j) = some u := fun j u hj => by
        obtain ⟨b', off', e', hc'⟩ := hcell j u hj
        simp only [Option.some.injEq] at e'
        subst e'
        rw [add_plain]; exact hc'
      have hld := run_loadCells_list (P := P) w ad cs hsrc
      have hst := run_storeCells_at P g 0 e cs 0 cur w hg (by rw [hl, hs]; omega) h1
      simp only [Nat.add_zero, Nat.zero_add, List.take_zero, List.nil_append] at hst
      rw [hl] at hld
      refine ⟨w.setRow g (cs ++ cur.toList.drop cs.length).toArray, by simp [Builtin.copy_, run_underlying hu, Builtin.lenOf, Builtin.firstCells, sizeOf, typeInfo, hq, hi, hld, hst], ⟨hl, .inr ⟨g, n, _, rfl, hb, setRow_heap w g cur _ e _ hg, Nat.le_refl _, hm', ?_, ?_⟩⟩, ⟨rfl, rfl, rfl, by simp [World.setRow], fun k _ hk => setRow_other w g k _ (fun e => hk (by simp [e]))⟩⟩
      · simp; omega
      · simp [← hl]

theorem Rd.set4 {A : Nat → Prop} {φ : World → Prop} {w : World} (h : Rd A φ w) {b : Nat} (hb : ¬ A b) (u v x y : Value) : Rd A φ ((((w.setCell ⟨b, 0, none⟩ u).setCell ⟨b, 1, none⟩ v).setCell ⟨b, 2, none⟩ x).setCell ⟨b, 3, none⟩ y) :=
  (((h.set hb 0 u).set hb 1 v).set hb 2 x).set hb 3 y

end Go.Mk

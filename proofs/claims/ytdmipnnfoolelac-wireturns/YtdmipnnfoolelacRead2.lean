/- From what an argument reads as to calls and requests. -/
import Derived.Test.YtdmipnnfoolelacRead
import Derived.Test.YtdmipnnfoolelacMath3
import Derived.Deep.Strs
namespace Go.Mk
open Go Go.RowKit Go.ChangeShapes Go.WideShapes

section
variable {P : Program} {H : Type} {enc : TypeId × Value → H} {W : World} {X : Type}

theorem trod_call {e : TypeId} {f0 f1 f2 f3 : Field} {fuel : Nat} {cs : List Value} {z : DataW H × List MemPlace} (he : P.underlying e = some (.struct #[f0, f1, f2, f3])) (hc : P.cellsOf e = 4)
    (h0 : P.underlying f0.type = some (.int .i64)) (h1 : P.underlying f1.type = some (.int .i64)) (h2 : P.underlying f2.type = some (.int .i64)) (h3 : P.underlying f3.type = some (.int .i64))
    (o0 : f0.offset = 0) (o1 : f1.offset = 1) (o2 : f2.offset = 2) (o3 : f3.offset = 3) (c0 : P.cellsOf f0.type = 1) (c1 : P.cellsOf f1.type = 1) (c2 : P.cellsOf f2.type = 1) (c3 : P.cellsOf f3.type = 1)
    (hz : DataW.trod enc P W 0 (fun _ => true) true fuel e cs = some z) : ∃ c : Cl, cs = [I c.kind, I c.name, I c.other, I c.n] := by
  obtain ⟨y0, y1, y2, y3, m, hx, hcl, t0, t1, t2, t3⟩ := Go.Joins.trod_struct4 he hz
  rw [hc] at hcl
  obtain ⟨u0, u1, u2, u3, rfl⟩ : ∃ u0 u1 u2 u3, cs = [u0, u1, u2, u3] := by
    match cs, hcl with
    | [u0, u1, u2, u3], _ => exact ⟨u0, u1, u2, u3, rfl⟩
  rw [o0, c0] at t0
  rw [o1, c1] at t1
  rw [o2, c2] at t2
  rw [o3, c3] at t3
  obtain ⟨x0, e0, _⟩ := DataW.trod_int h0 t0
  obtain ⟨x1, e1, _⟩ := DataW.trod_int h1 t1
  obtain ⟨x2, e2, _⟩ := DataW.trod_int h2 t2
  obtain ⟨x3, e3, _⟩ := DataW.trod_int h3 t3
  simp at e0 e1 e2 e3
  exact ⟨⟨x0, x1, x2, x3⟩, by rw [e0, e1, e2, e3]⟩

/-- A call by value. -/
theorem read_call {e : TypeId} {f0 f1 f2 f3 : Field} {v : Value} {d : DataW H} {p : List MemPlace} (he : P.underlying e = some (.struct #[f0, f1, f2, f3])) (hc : P.cellsOf e = 4)
    (h0 : P.underlying f0.type = some (.int .i64)) (h1 : P.underlying f1.type = some (.int .i64)) (h2 : P.underlying f2.type = some (.int .i64)) (h3 : P.underlying f3.type = some (.int .i64))
    (o0 : f0.offset = 0) (o1 : f1.offset = 1) (o2 : f2.offset = 2) (o3 : f3.offset = 3) (c0 : P.cellsOf f0.type = 1) (c1 : P.cellsOf f1.type = 1) (c2 : P.cellsOf f2.type = 1) (c3 : P.cellsOf f3.type = 1)
    {b0 : Nat} (hv : Value.okWide P W .any b0 e v) (h : DataW.Trod enc P W 0 (fun _ => true) true e v d p) : ∃ k a o n : Int, v = .agg #[I k, I a, I o, I n] := by
  obtain ⟨cs, rfl, hsz⟩ := okWide_struct he hv
  obtain ⟨fuel, hf⟩ := h
  obtain ⟨c, hx⟩ := trod_call he hc h0 h1 h2 h3 o0 o1 o2 o3 c0 c1 c2 c3 hf
  refine ⟨c.kind, c.name, c.other, c.n, ?_⟩
  simp only [Value.cells] at hx
  rw [show cs = #[I c.kind, I c.name, I c.other, I c.n] from by cases cs; simp_all]

theorem trod_req {e : TypeId} {g0 g1 g2 f0 f1 f2 f3 : Field} {fuel : Nat} {cs : List Value} {z : DataW H × List MemPlace} (he : P.underlying e = some (.struct #[g0, g1, g2])) (hc : P.cellsOf e = 6)
    (i0 : P.underlying g0.type = some (.int .i64)) (i1 : P.underlying g1.type = some (.int .i64)) (i2 : P.underlying g2.type = some (.struct #[f0, f1, f2, f3]))
    (q0 : g0.offset = 0) (q1 : g1.offset = 1) (q2 : g2.offset = 2) (d0 : P.cellsOf g0.type = 1) (d1 : P.cellsOf g1.type = 1) (d2 : P.cellsOf g2.type = 4)
    (h0 : P.underlying f0.type = some (.int .i64)) (h1 : P.underlying f1.type = some (.int .i64)) (h2 : P.underlying f2.type = some (.int .i64)) (h3 : P.underlying f3.type = some (.int .i64))
    (o0 : f0.offset = 0) (o1 : f1.offset = 1) (o2 : f2.offset = 2) (o3 : f3.offset = 3) (c0 : P.cellsOf f0.type = 1) (c1 : P.cellsOf f1.type = 1) (c2 : P.cellsOf f2.type = 1) (c3 : P.cellsOf f3.type = 1)
    (hz : DataW.trod enc P W 0 (fun _ => true) true fuel e cs = some z) : ∃ r : Rq, cs = [I r.client, I r.token, I r.call.kind, I r.call.name, I r.call.other, I r.call.n] := by
  obtain ⟨y0, y1, y2, m, hx, hcl, t0, t1, t2⟩ := Go.Deep.trod_struct3 he hz
  rw [hc] at hcl
  obtain ⟨u0, u1, u2, u3, u4, u5, rfl⟩ : ∃ u0 u1 u2 u3 u4 u5, cs = [u0, u1, u2, u3, u4, u5] := by
    match cs, hcl with
    | [u0, u1, u2, u3, u4, u5], _ => exact ⟨u0, u1, u2, u3, u4, u5, rfl⟩
  rw [q0, d0] at t0
  rw [q1, d1] at t1
  rw [q2, d2] at t2
  obtain ⟨x0, e0, _⟩ := DataW.trod_int i0 t0
  obtain ⟨x1, e1, _⟩ := DataW.trod_int i1 t1
  obtain ⟨c, e2⟩ := trod_call i2 d2 h0 h1 h2 h3 o0 o1 o2 o3 c0 c1 c2 c3 t2
  simp at e0 e1 e2
  obtain ⟨e2, e3, e4, e5⟩ := e2
  exact ⟨⟨x0, x1, c⟩, by rw [e0, e1, e2, e3, e4, e5]⟩

theorem read_reqs {t e : TypeId} {g0 g1 g2 f0 f1 f2 f3 : Field} {v : Value} {d : DataW H} {p : List MemPlace} (ht : P.underlying t = some (.slice e)) (he : P.underlying e = some (.struct #[g0, g1, g2])) (hc : P.cellsOf e = 6)
    (i0 : P.underlying g0.type = some (.int .i64)) (i1 : P.underlying g1.type = some (.int .i64)) (i2 : P.underlying g2.type = some (.struct #[f0, f1, f2, f3]))
    (q0 : g0.offset = 0) (q1 : g1.offset = 1) (q2 : g2.offset = 2) (d0 : P.cellsOf g0.type = 1) (d1 : P.cellsOf g1.type = 1) (d2 : P.cellsOf g2.type = 4)
    (h0 : P.underlying f0.type = some (.int .i64)) (h1 : P.underlying f1.type = some (.int .i64)) (h2 : P.underlying f2.type = some (.int .i64)) (h3 : P.underlying f3.type = some (.int .i64))
    (o0 : f0.offset = 0) (o1 : f1.offset = 1) (o2 : f2.offset = 2) (o3 : f3.offset = 3) (c0 : P.cellsOf f0.type = 1) (c1 : P.cellsOf f1.type = 1) (c2 : P.cellsOf f2.type = 1) (c3 : P.cellsOf f3.type = 1)
    {b0 : Nat} (hv : Value.okWide P W .any b0 t v) (h : DataW.Trod enc P W 0 (fun _ => true) true t v d p) :
    ∃ l : List Rq, Reqs W v l ∧ (l = [] ∨ ∃ elems spare, d = .slice elems spare ∧ elems.length = l.length) := by
  obtain ⟨a0, len, cap, rfl⟩ := okWide_slice ht hv
  obtain ⟨fuel, hf⟩ := h
  obtain ⟨xs, css, hr, hl, hq, hs⟩ := read_slice (X := Rq) (by decide) (fun cs r => cs = [I r.client, I r.token, I r.call.kind, I r.call.name, I r.call.other, I r.call.n]) ht hc (fun fuel cs z hz _ => trod_req he hc i0 i1 i2 q0 q1 q2 d0 d1 d2 h0 h1 h2 h3 o0 o1 o2 o3 c0 c1 c2 c3 hz) rfl hf
  refine ⟨xs, ?_, hs⟩
  rw [flat_of (f := fun r => [I r.client, I r.token, I r.call.kind, I r.call.name, I r.call.other, I r.call.n]) hl (fun i c x hc hx => (hq i c x hc hx).2)] at hr
  exact hr

end
end Go.Mk

/- From what an argument reads as to what its slice holds. -/
import Derived.Test.YtdmipnnfoolelabMem
import Derived.ProofKit
import Derived.SizedLaws
import Derived.Lib.SmallJoins
namespace Go.Mk
open Go Go.RowKit Go.ChangeShapes Go.WideShapes

theorem pick_list {Y : Type} (n : Nat) {Q : Nat → Y → Prop} (h : ∀ i, i < n → ∃ y, Q i y) : ∃ l : List Y, l.length = n ∧ ∀ i y, l[i]? = some y → Q i y := by
  induction n with
  | zero => exact ⟨[], rfl, fun i y hy => by simp at hy⟩
  | succ n ih =>
    obtain ⟨l, hl, hq⟩ := ih (fun i hi => h i (by omega))
    obtain ⟨y, hy⟩ := h n (by omega)
    refine ⟨l ++ [y], by simp [hl], fun i z hz => ?_⟩
    by_cases hi : i < l.length
    · rw [List.getElem?_append_left hi] at hz
      exact hq i z hz
    · rw [List.getElem?_append_right (by omega)] at hz
      have : i - l.length = 0 := by
        have := (List.getElem?_eq_some_iff.1 hz).1
        simp at this
        omega
      rw [this] at hz
      simp at hz
      subst hz
      rw [show i = n by omega]
      exact hy

theorem flatten_at {Y : Type} (sz : Nat) (hsz : 0 < sz) : ∀ (css : List (List Y)), (∀ c ∈ css, c.length = sz) → ∀ j, css.flatten[j]? = (css[j / sz]?).bind (fun c => c[j % sz]?)
  | [], _, j => by simp
  | c :: css, h, j => by
    have hc : c.length = sz := h c (by simp)
    rw [List.flatten_cons]
    by_cases hj : j < sz
    · rw [List.getElem?_append_left (by omega), Nat.div_eq_of_lt hj, Nat.mod_eq_of_lt hj]
      rfl
    · rw [List.getElem?_append_right (by omega), flatten_at sz hsz css (fun c hc => h c (by simp [hc])), hc]
      obtain ⟨k, rfl⟩ : ∃ k, j = k + sz := ⟨j - sz, by omega⟩
      rw [Nat.add_sub_cancel, Nat.add_div_right _ hsz, Nat.add_mod_right]
      rfl
theorem length_flatten_sz {Y : Type} (sz : Nat) : ∀ (css : List (List Y)), (∀ c ∈ css, c.length = sz) → css.flatten.length = css.length * sz
  | [], _ => by simp
  | c :: css, h => by
    rw [List.flatten_cons, List.length_append, length_flatten_sz sz css (fun c hc => h c (by simp [hc])), h c (by simp), List.length_cons, Nat.add_mul]
    omega

section
variable {P : Program} {H : Type} {enc : TypeId × Value → H} {W : World} {X : Type}

theorem cell_of_cells {w : World} {base : Nat} {a : Addr} {n : Nat} {cs : List Value} (h : w.cells? base a n = some cs) : cs.length = n ∧ ∀ i u, cs[i]? = some u → w.cell? (a.add i) = some u := by
  obtain ⟨_, h2, h3⟩ := World.cells?_some h
  refine ⟨h2, fun i u hu => ?_⟩
  have hi : i < n := by have := (List.getElem?_eq_some_iff.1 hu).1; omega
  rw [h3 i hi]
  exact hu

theorem add_add (a : Addr) (i j : Nat) (h : a.spot = none) : (a.add i).add j = ⟨a.block, a.off + (i + j), none⟩ := by
  obtain ⟨b, off, spot⟩ := a
  simp only at h
  subst h
  rw [add_plain, add_plain, Nat.add_assoc]

/-- A slice whose elements read one by one. -/
theorem read_slice {t e : TypeId} {sz : Nat} (hsz : 0 < sz) {v : Value} {d : DataW H} {p : List MemPlace} (R : List Value → X → Prop) (ht : P.underlying t = some (.slice e)) (hc : P.cellsOf e = sz)
    (hR : ∀ fuel cs z, DataW.trod enc P W 0 (fun _ => true) true fuel e cs = some z → cs.length = sz → ∃ x, R cs x)
    {cs0 : List Value} {fuel : Nat} (hcs0 : cs0 = [v]) (hf : DataW.trod enc P W 0 (fun _ => true) true fuel t cs0 = some (d, p)) :
    ∃ (xs : List X) (css : List (List Value)), Row W sz v xs.length css.flatten ∧ css.length = xs.length ∧ (∀ (i : Nat) c x, css[i]? = some c → xs[i]? = some x → c.length = sz ∧ R c x) ∧
      (xs = [] ∨ ∃ elems spare, d = .slice elems spare ∧ elems.length = xs.length) := by
  subst hcs0
  rcases DataW.trod_slice ht hf with ⟨hcs, hx⟩ | ⟨a, len, cap, elems, rest, n, _, hcs, hx, _, hl, hm, hlen, hel, _, _⟩
  · simp at hcs
    subst hcs
    exact ⟨[], [], Row.of_owns (World.ownsRow_nil W 0 0 sz), rfl, fun i c x hi => by simp at hi, .inl rfl⟩
  · simp at hcs
    subst hcs
    simp only [Prod.mk.injEq] at hx
    obtain ⟨rfl, rfl⟩ := hx
    rw [hc] at hel
    obtain ⟨l, hll, hq⟩ := pick_list (Y := List Value × X) len (Q := fun i y => W.cells? 0 (a.add (i * sz)) sz = some y.1 ∧ R y.1 y.2) (fun i hi => by
      have h1 := hel i hi
      obtain ⟨z, hz⟩ : ∃ z, elems[i]? = some z := ⟨elems[i]'(by omega), by simp⟩
      rw [hz, Option.bind_eq_some_iff] at h1
      obtain ⟨cs, hcs, hz'⟩ := h1
      obtain ⟨x, hx⟩ := hR _ _ _ hz' (cell_of_cells hcs).1
      exact ⟨(cs, x), hcs, hx⟩)
    have hall : ∀ c ∈ l.map (·.1), c.length = sz := fun c hcm => by
      obtain ⟨y, hy, rfl⟩ := List.mem_map.1 hcm
      obtain ⟨i, hi⟩ := List.mem_iff_getElem?.1 hy
      exact (cell_of_cells (hq i y hi).1).1
    refine ⟨l.map (·.2), l.map (·.1), ⟨?_, some a, cap, by simp [hll], by simp [hll]; exact hl, hm, fun h => (by cases h), fun j u hj => ?_⟩, by simp, fun i c x hi hx => ?_, .inr ⟨_, _, rfl, by simp [hll, hlen]⟩⟩
    · rw [length_flatten_sz sz _ hall]; simp
    · rw [flatten_at sz hsz _ hall, Option.bind_eq_some_iff] at hj
      obtain ⟨c, hci, hcj⟩ := hj
      rw [List.getElem?_map] at hci
      cases hy : l[j / sz]? with
      | none => rw [hy] at hci; cases hci
      | some y =>
        rw [hy] at hci
        simp at hci
        subst hci
        have hcell := (cell_of_cells (hq _ _ hy).1).2 _ _ hcj
        have hspot : a.spot = none := by
          by_cases h0 : j / sz * sz = 0
          · rw [h0] at hcell
            by_cases h1 : j % sz = 0
            · rw [h1] at hcell
              have := World.cell?_spot hcell
              simpa [Addr.add] using this
            · have h2 := (cell_of_cells (hq _ _ hy).1).2 0
              have h3 : 0 < y.1.length := by have := (List.getElem?_eq_some_iff.1 hcj).1; omega
              have h4 := h2 _ (List.getElem?_eq_getElem h3)
              rw [h0] at h4
              have := World.cell?_spot h4
              simpa [Addr.add] using this
          · -- the first element's first cell
            have hl0 : 0 < l.length := Nat.lt_of_le_of_lt (Nat.zero_le _) (List.getElem?_eq_some_iff.1 hy).1
            have h5 := hq 0 _ (List.getElem?_eq_getElem hl0)
            have h6 := cell_of_cells h5.1
            have h7 := h6.2 0 _ (List.getElem?_eq_getElem (by omega))
            have := World.cell?_spot h7
            simpa [Addr.add] using this
        rw [add_add a _ _ hspot, Nat.div_add_mod' j sz] at hcell
        obtain ⟨b, off, spot⟩ := a
        simp only at hspot
        subst hspot
        exact ⟨b, off, rfl, hcell⟩
    · rw [List.getElem?_map] at hi hx
      cases hy : l[i]? with
      | none => rw [hy] at hi; cases hi
      | some y =>
        rw [hy] at hi hx
        simp at hi hx
        subst hi hx
        exact ⟨(cell_of_cells (hq _ _ hy).1).1, (hq _ _ hy).2⟩

/-- Where an element's cells are a function of it. -/
theorem flat_of {f : X → List Value} : ∀ {css : List (List Value)} {xs : List X}, css.length = xs.length → (∀ (i : Nat) c x, css[i]? = some c → xs[i]? = some x → c = f x) → css.flatten = xs.flatMap f
  | [], [], _, _ => rfl
  | [], _ :: _, h, _ => by cases h
  | _ :: _, [], h, _ => by cases h
  | c :: css, x :: xs, h, hq => by
    rw [List.flatten_cons, List.flatMap_cons, hq 0 c x rfl rfl, flat_of (by simpa using h) (fun i c x hc hx => hq (i + 1) c x hc hx)]

theorem flatMap_one (xs : List Int) : xs.flatMap (fun x => [I x]) = xs.map I := by
  induction xs with
  | nil => rfl
  | cons x xs ih => rw [List.flatMap_cons, ih]; rfl

theorem read_ints {t e : TypeId} {v : Value} {d : DataW H} {p : List MemPlace} (ht : P.underlying t = some (.slice e)) (he : P.underlying e = some (.int .i64)) (hc : P.cellsOf e = 1)
    {b0 : Nat} (hv : Value.okWide P W .any b0 t v) (h : DataW.Trod enc P W 0 (fun _ => true) true t v d p) :
    ∃ xs : List Int, Ints W v xs ∧ (xs = [] ∨ ∃ elems spare, d = .slice elems spare ∧ elems.length = xs.length) := by
  obtain ⟨a0, len, cap, rfl⟩ := okWide_slice ht hv
  obtain ⟨fuel, hf⟩ := h
  obtain ⟨xs, css, hr, hl, hq, hs⟩ := read_slice (X := Int) (by decide) (fun cs x => cs = [I x]) ht hc (fun fuel cs z hz _ => by
    obtain ⟨n, rfl, _⟩ := DataW.trod_int he hz
    exact ⟨n, rfl⟩) rfl hf
  refine ⟨xs, ?_, hs⟩
  rw [flat_of (f := fun x => [I x]) hl (fun i c x hc hx => (hq i c x hc hx).2)] at hr
  rw [flatMap_one] at hr
  exact hr

theorem trod_pair {e : TypeId} {f0 f1 : Field} {fuel : Nat} {cs : List Value} {z : DataW H × List MemPlace} (he : P.underlying e = some (.struct #[f0, f1])) (hc : P.cellsOf e = 2)
    (h0 : P.underlying f0.type = some (.int .i64)) (h1 : P.underlying f1.type = some (.int .i64)) (o0 : f0.offset = 0) (o1 : f1.offset = 1) (c0 : P.cellsOf f0.type = 1) (c1 : P.cellsOf f1.type = 1)
    (hz : DataW.trod enc P W 0 (fun _ => true) true fuel e cs = some z) : ∃ x : Int × Int, cs = [I x.1, I x.2] := by
  obtain ⟨y0, y1, m, hx, hcl, t0, t1⟩ := trod_struct2 he hz
  rw [hc] at hcl
  obtain ⟨u0, u1, rfl⟩ : ∃ u0 u1, cs = [u0, u1] := by
    match cs, hcl with
    | [u0, u1], _ => exact ⟨u0, u1, rfl⟩
  rw [o0, c0] at t0
  rw [o1, c1] at t1
  obtain ⟨x, e0, _⟩ := DataW.trod_int h0 t0
  obtain ⟨y, e1, _⟩ := DataW.trod_int h1 t1
  simp at e0 e1
  exact ⟨(x, y), by rw [e0, e1]⟩

theorem read_writes {t e : TypeId} {f0 f1 : Field} {v : Value} {d : DataW H} {p : List MemPlace} (ht : P.underlying t = some (.slice e)) (he : P.underlying e = some (.struct #[f0, f1])) (hc : P.cellsOf e = 2)
    (h0 : P.underlying f0.type = some (.int .i64)) (h1 : P.underlying f1.type = some (.int .i64)) (o0 : f0.offset = 0) (o1 : f1.offset = 1) (c0 : P.cellsOf f0.type = 1) (c1 : P.cellsOf f1.type = 1)
    {b0 : Nat} (hv : Value.okWide P W .any b0 t v) (h : DataW.Trod enc P W 0 (fun _ => true) true t v d p) :
    ∃ l : List (Int × Int), Writes W v l ∧ (l = [] ∨ ∃ elems spare, d = .slice elems spare ∧ elems.length = l.length) := by
  obtain ⟨a0, len, cap, rfl⟩ := okWide_slice ht hv
  obtain ⟨fuel, hf⟩ := h
  obtain ⟨xs, css, hr, hl, hq, hs⟩ := read_slice (X := Int × Int) (by decide) (fun cs x => cs = [I x.1, I x.2]) ht hc (fun fuel cs z hz _ => trod_pair he hc h0 h1 o0 o1 c0 c1 hz) rfl hf
  refine ⟨xs, ?_, hs⟩
  rw [flat_of (f := fun x => [I x.1, I x.2]) hl (fun i c x hc hx => (hq i c x hc hx).2)] at hr
  exact hr

/-- A pair by value. -/
theorem read_pair {e : TypeId} {f0 f1 : Field} {v : Value} {d : DataW H} {p : List MemPlace} (he : P.underlying e = some (.struct #[f0, f1])) (hc : P.cellsOf e = 2)
    (h0 : P.underlying f0.type = some (.int .i64)) (h1 : P.underlying f1.type = some (.int .i64)) (o0 : f0.offset = 0) (o1 : f1.offset = 1) (c0 : P.cellsOf f0.type = 1) (c1 : P.cellsOf f1.type = 1)
    {b0 : Nat} (hv : Value.okWide P W .any b0 e v) (h : DataW.Trod enc P W 0 (fun _ => true) true e v d p) : ∃ x : Int × Int, v = .agg #[I x.1, I x.2] := by
  obtain ⟨cs, rfl, hsz⟩ := okWide_struct he hv
  obtain ⟨fuel, hf⟩ := h
  obtain ⟨x, hx⟩ := trod_pair he hc h0 h1 o0 o1 c0 c1 hf
  refine ⟨x, ?_⟩
  simp only [Value.cells] at hx
  rw [show cs = #[I x.1, I x.2] from by cases cs; simp_all]

end
end Go.Mk

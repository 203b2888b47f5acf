/- What slices hold, said of the cells of memory; it stays so while memory grows. -/
import Derived.WalkKit
import Derived.WalkSpells
import Derived.WalkLawsBesides
import Derived.Laws.CopyOwn
import Derived.Deep.Draws
import Derived.Test.YtdmipnnfoolelaaMono
namespace Go.Mk
open Go Go.RowKit

theorem Ext.drewN {a w : World} (h : Ext a w) (n : Nat) : Ext a (w.drewN n) := ⟨h.os, h.tape, h.output, h.size, h.block⟩
theorem Ext.of_drewN (w : World) (n : Nat) : Ext w (w.drewN n) := (Ext.refl w).drewN n

abbrev I (n : Int) : Value := .int .i64 n

/-- The slice v has n elements of 'size' cells each, and these are its cells. -/
def Row (w : World) (size : Nat) (v : Value) (n : Nat) (cs : List Value) : Prop :=
  cs.length = n * size ∧ ∃ ao cap, v = .slice ao n cap ∧ n ≤ cap ∧ cap ≤ maxLen ∧ (ao = none → cap = 0) ∧ ∀ j u, cs[j]? = some u → ∃ b off, ao = some ⟨b, off, none⟩ ∧ w.cell? ⟨b, off + j, none⟩ = some u

theorem Row.ext {w w' : World} {size : Nat} {v : Value} {n : Nat} {cs : List Value} (h : Row w size v n cs) (he : Ext w w') : Row w' size v n cs := by
  obtain ⟨h1, ao, cap, h2, h3, h4, h0, h5⟩ := h
  exact ⟨h1, ao, cap, h2, h3, h4, h0, fun j u hj => by obtain ⟨b, off, e, hc⟩ := h5 j u hj; exact ⟨b, off, e, he.cell hc⟩⟩

theorem Row.of_owns {w : World} {base e size : Nat} {v : Value} {n : Nat} {cs : List Value} (h : w.ownsRow base e size v n cs) : Row w size v n cs := by
  obtain ⟨h1, h2⟩ := h
  refine ⟨h1, ?_⟩
  rcases h2 with ⟨rfl, rfl⟩ | ⟨g, cap, cur, rfl, hb, hg, hn, hm, hs, ht⟩
  · refine ⟨none, 0, rfl, Nat.le_refl _, Nat.zero_le _, fun _ => rfl, fun j u hj => ?_⟩
    have : cs = [] := List.eq_nil_of_length_eq_zero (by simpa using h1)
    subst this
    simp at hj
  · refine ⟨_, cap, rfl, hn, hm, fun h => (by cases h), fun j u hj => ⟨g, 0, rfl, ?_⟩⟩
    have hj' : j < n * size := by rw [← h1]; exact (List.getElem?_eq_some_iff.1 hj).1
    rw [← ht, List.getElem?_take, if_pos hj'] at hj
    simp only [World.cell?, Nat.zero_add, hg]
    simpa using hj

/-- A slice of ints that reads as xs. -/
def Ints (w : World) (v : Value) (xs : List Int) : Prop := Row w 1 v xs.length (xs.map I)
theorem Ints.ext {w w' : World} {v : Value} {xs : List Int} (h : Ints w v xs) (he : Ext w w') : Ints w' v xs := Row.ext h he

/-- The slice's own form, as the walk wants it. -/
theorem Ints.form {w : World} {v : Value} {xs : List Int} (h : Ints w v xs) : ∃ ao cap, v = .slice ao xs.length cap ∧ xs.length ≤ cap ∧ cap ≤ maxLen ∧
    ∀ k, k < xs.length → ∃ b off, ao = some ⟨b, off, none⟩ ∧ w.cell? ⟨b, off + k, none⟩ = some (I (xs.getD k 0)) := by
  obtain ⟨_, ao, cap, h2, h3, h4, _, h5⟩ := h
  refine ⟨ao, cap, h2, h3, h4, fun k hk => ?_⟩
  exact h5 k _ (by simp [hk])

/-- A slice of writes (pairs of ints) that reads as l. -/
def cells2 (l : List (Int × Int)) : List Value := l.flatMap fun p => [I p.1, I p.2]
theorem length_cells2 (l : List (Int × Int)) : (cells2 l).length = l.length * 2 := by
  unfold cells2
  induction l with
  | nil => rfl
  | cons p l ih => simp [List.flatMap_cons, ih]; omega
theorem cells2_append (l m : List (Int × Int)) : cells2 (l ++ m) = cells2 l ++ cells2 m := by simp [cells2]
theorem cells2_at (l : List (Int × Int)) (k : Nat) (h : k < l.length) : (cells2 l)[k * 2]? = some (I (l.getD k (0, 0)).1) ∧ (cells2 l)[k * 2 + 1]? = some (I (l.getD k (0, 0)).2) := by
  induction l generalizing k with
  | nil => simp at h
  | cons p l ih =>
    cases k with
    | zero => exact ⟨rfl, rfl⟩
    | succ k =>
      have := ih k (by simpa using h)
      rw [show (k + 1) * 2 = k * 2 + 2 by omega, show k * 2 + 2 + 1 = k * 2 + 1 + 2 by omega]
      exact this

theorem cells2_set (l : List (Int × Int)) (k : Nat) (p : Int × Int) : cells2 (l.set k p) = ((cells2 l).set (k * 2) (I p.1)).set (k * 2 + 1) (I p.2) := by
  induction l generalizing k with
  | nil => simp [cells2]
  | cons q l ih =>
    cases k with
    | zero => rfl
    | succ k =>
      rw [show (k + 1) * 2 = k * 2 + 2 by omega, show k * 2 + 2 + 1 = k * 2 + 1 + 2 by omega]
      show I q.1 :: I q.2 :: cells2 (l.set k p) = _
      rw [ih]
      rfl

def Writes (w : World) (v : Value) (l : List (Int × Int)) : Prop := Row w 2 v l.length (cells2 l)
theorem Writes.ext {w w' : World} {v : Value} {l : List (Int × Int)} (h : Writes w v l) (he : Ext w w') : Writes w' v l := Row.ext h he
theorem Writes.form {w : World} {v : Value} {l : List (Int × Int)} (h : Writes w v l) : ∃ ao cap, v = .slice ao l.length cap ∧ l.length ≤ cap ∧ cap ≤ maxLen ∧
    ∀ k, k < l.length → ∃ b off, ao = some ⟨b, off, none⟩ ∧ w.cell? ⟨b, off + k * 2, none⟩ = some (I (l.getD k (0, 0)).1) ∧ w.cell? ⟨b, off + k * 2 + 1, none⟩ = some (I (l.getD k (0, 0)).2) := by
  obtain ⟨_, ao, cap, h2, h3, h4, _, h5⟩ := h
  refine ⟨ao, cap, h2, h3, h4, fun k hk => ?_⟩
  obtain ⟨c1, c2⟩ := cells2_at l k hk
  obtain ⟨b, off, e, hc⟩ := h5 _ _ c1
  obtain ⟨b', off', e', hc'⟩ := h5 _ _ c2
  rw [e] at e'
  simp only [Option.some.injEq, Addr.mk.injEq, and_true] at e'
  obtain ⟨rfl, rfl⟩ := e'
  exact ⟨b, off, e, hc, hc'⟩

theorem mapI_one (xs : List Int) : ∀ u ∈ xs.map I, u.oneCell' = true := ints_oneCell _ _
theorem cells2_one (l : List (Int × Int)) : ∀ u ∈ cells2 l, u.oneCell' = true := by
  intro u hu
  unfold cells2 at hu
  rw [List.mem_flatMap] at hu
  obtain ⟨p, _, hp⟩ := hu
  simp at hp
  rcases hp with rfl | rfl <;> rfl

theorem add_plain (b off j : Nat) : (⟨b, off, none⟩ : Addr).add j = ⟨b, off + j, none⟩ := by
  unfold Addr.add
  split
  · simp [*]
  · rfl

/-- copy(dst, src), both of one length, dst the call's own. -/
theorem run_copy_all {P : Program} (w : World) (t ty e : TypeId) (hu : P.underlying t = some (.slice e)) (hsz : (P.info? e).map (·.size) = some 1) (base g n : Nat) (v : Value) (cs old : List Value)
    (hown : w.ownsRow base e 1 (.slice (some ⟨g, 0, none⟩) n n) n old) (hv : Row w 1 v n cs) (h1 : ∀ u ∈ cs, u.oneCell' = true) :
    ∃ w', (Builtin.copy_ #[t, t] ty #[.slice (some ⟨g, 0, none⟩) n n, v]).run P w = .ok (goInt n) w' ∧ w'.ownsRow base e 1 (.slice (some ⟨g, 0, none⟩) n n) n cs ∧ w.grownBy w' (some g) := by
  obtain ⟨hl, ao, cap, rfl, hc, hm, _, hcell⟩ := hv
  obtain ⟨ho, ho'⟩ := hown
  rcases ho' with ⟨h, _⟩ | ⟨g', cap', cur, h, hb, hg, hn, hm', hs, ht⟩
  · simp at h
  simp only [Value.slice.injEq, Option.some.injEq, Addr.mk.injEq, and_true, true_and] at h
  obtain ⟨rfl, rfl⟩ := h
  rw [Nat.mul_one] at hl hs
  by_cases h0 : n = 0
  · subst h0
    have : cs = [] := List.eq_nil_of_length_eq_zero hl
    subst this
    refine ⟨w, run_copy_none w t t ty e _ _ _ _ _ _ hu hsz (by simp), ⟨rfl, .inr ⟨g, 0, cur, rfl, hb, hg, Nat.le_refl _, hm', by simpa using hs, by simp⟩⟩, World.grownBy.refl _ _⟩
  · have hne : cs ≠ [] := by intro e; subst e; simp at hl; omega
    obtain ⟨c0, hc0⟩ : ∃ c, cs[0]? = some c := by cases cs with | nil => exact absurd rfl hne | cons c _ => exact ⟨c, rfl⟩
    obtain ⟨b, off, rfl, _⟩ := hcell 0 c0 hc0
    have hrun := run_copy_row (P := P) w t t ty e g 0 n n ⟨b, off, none⟩ n cap cur e cs hu hsz hg (by rw [hl]; exact (Nat.min_self n).symm) (fun j u hj => by
      obtain ⟨b', off', e', hc'⟩ := hcell j u hj
      simp only [Option.some.injEq, Addr.mk.injEq, and_true] at e'
      obtain ⟨rfl, rfl⟩ := e'
      rw [add_plain]; exact hc') (by omega) h1
    rw [hl] at hrun
    refine ⟨_, hrun, ⟨by omega, .inr ⟨g, n, _, rfl, hb, setRow_heap w g cur _ e _ hg, Nat.le_refl _, hm', ?_, ?_⟩⟩, ⟨rfl, rfl, rfl, by simp [World.setRow], fun k _ hk => setRow_other w g k _ (fun e => hk (by simp [e]))⟩⟩
    · simp; omega
    · simp [← hl]

/-- What is the call's own has grown, or has been written: all that was there at first is as it was. -/
theorem Ext.grown {a w w' : World} {row : Option Nat} (h : Ext a w) (hg : w.grownBy w' row) (hr : ∀ k, row = some k → a.heap.size ≤ k) : Ext a w' := Below.grown h hg h.size hr

theorem ints_of_owns {w : World} {base e n : Nat} {v : Value} {xs : List Int} (h : w.ownsRow base e 1 v n (xs.map I)) : Ints w v xs := by
  have hl : xs.length = n := by simpa using h.1
  subst hl
  exact Row.of_owns h
theorem writes_of_owns {w : World} {base e n : Nat} {v : Value} {l : List (Int × Int)} (h : w.ownsRow base e 2 v n (cells2 l)) : Writes w v l := by
  have hl : l.length = n := by have := h.1; rw [length_cells2] at this; omega
  subst hl
  exact Row.of_owns h
theorem Ext.alloc {a w : World} (h : Ext a w) (o : Obj) : Ext a (w.alloc o) := Below.alloc h h.size o
theorem Ext.setCell {a w : World} (h : Ext a w) {p : Addr} (hp : a.heap.size ≤ p.block) (u : Value) : Ext a (w.setCell p u) := Below.setCell h hp u

/-- append(v, u...), v the call's own (or nil), u whatever. -/
theorem run_append_row {P : Program} (w : World) (base : Nat) (t ty e : TypeId) (i : TypeInfo) (z : Value) (size bytes : Nat) (ht : P.underlying t = some (.slice e)) (hi : P.info? e = some i) (hz : i.zero = some z)
    (hsize : i.size = size) (hby : i.bytes = bytes) (hzs : z.cells.size = size) (hsz : 0 < size)
    (v : Value) (n : Nat) (xs : List Value) (hown : w.ownsRow base e size v n xs) (u : Value) (m : Nat) (news : List Value) (hu : Row w size u m news) (h1 : ∀ u ∈ news, u.oneCell' = true)
    (hbytes : (n + m) * bytes ≤ 140737488355328) (hpos : 0 < bytes) (hbase : base ≤ w.heap.size) :
    ∃ v' w', (Builtin.append_ #[t, t] ty #[v, u]).run P w = .ok v' w' ∧ w'.ownsRow base e size v' (n + m) (xs ++ news) ∧ w.grownBy w' v.ownBlock := by
  obtain ⟨hl, ao, cap, rfl, hc, hm, h0, hcell⟩ := hu
  have h63 : n + m ≤ maxLen := by
    have : n + m ≤ (n + m) * bytes := Nat.le_mul_of_pos_right _ hpos
    unfold maxLen
    omega
  cases ao with
  | none =>
    have hcap := h0 rfl
    subst hcap
    have hm0 : m = 0 := by omega
    subst hm0
    have : news = [] := List.eq_nil_of_length_eq_zero (by simpa using hl)
    subst this
    exact ⟨v, w, run_append_owned_none w base t ty e i size ht hi v n xs hown, by simpa using hown, World.grownBy.refl _ _⟩
  | some ad =>
    obtain ⟨v', w', h1', h2', h3', _⟩ := run_append_own w base t ty e i z size bytes ht hi hz hsize hby hzs hsz v n xs hown ad m cap news hl (fun j u hj => by
      obtain ⟨b, off, e', hc'⟩ := hcell j u hj
      simp only [Option.some.injEq] at e'
      subst e'
      rw [add_plain]; exact hc') h1 h63 hbytes hbase
    exact ⟨v', w', h1', h2', h3'⟩

theorem wpList_append_row {P : Program} (w : World) {ops : Array Oper} {rest : List Oper} {o : Oper} {a : Act} {Q : Exit → Act → World → Prop} (hgd : o.guard = none) (s x : Operand) (t : TypeId)
    (ho : o.op = .call { callee := .builtin .append, args := #[s, x], argTypes := #[t, t] })
    (base : Nat) (e : TypeId) (i : TypeInfo) (z : Value) (size bytes : Nat) (ht : P.underlying t = some (.slice e)) (hi : P.info? e = some i) (hz : i.zero = some z)
    (hsize : i.size = size) (hby : i.bytes = bytes) (hzs : z.cells.size = size) (hsz : 0 < size)
    (v : Value) (n : Nat) (xs : List Value) (hs : a.eval s = v) (hown : w.ownsRow base e size v n xs) (u : Value) (hx : a.eval x = u) (m : Nat) (news : List Value) (hu : Row w size u m news) (h1 : ∀ u ∈ news, u.oneCell' = true)
    (hbytes : (n + m) * bytes ≤ 140737488355328) (hpos : 0 < bytes) (hbase : base ≤ w.heap.size)
    (h : ∀ v' w', w'.ownsRow base e size v' (n + m) (xs ++ news) → w.grownBy w' v.ownBlock → wpList P ops Q rest (a.put o.dst v') w') : wpList P ops Q (o :: rest) a w := by
  refine wpList_plain hgd fun K hK => ?_
  obtain ⟨v', w', hrun, h2, h3⟩ := run_append_row (P := P) w base t o.type e i z size bytes ht hi hz hsize hby hzs hsz v n xs hown u m news hu h1 hbytes hpos hbase
  unfold Oper.wp
  simp [execOp, ho, resolve, invoke, builtin, hs, hx, hrun, Result.andThen]
  exact hK _ _ (h v' w' h2 h3)

theorem writes_nil (w : World) : Writes w (.slice none 0 0) [] := writes_of_owns (World.ownsRow_nil w 0 0 2)
theorem ints_nil (w : World) : Ints w (.slice none 0 0) [] := ints_of_owns (World.ownsRow_nil w 0 0 1)
/-- The first k elements. -/
theorem Row.take {w : World} {size n cap : Nat} {ao : Option Addr} {cs : List Value} (h : Row w size (.slice ao n cap) n cs) (k : Nat) (hk : k ≤ n) : Row w size (.slice ao k cap) k (cs.take (k * size)) := by
  obtain ⟨h1, ao', cap', h2, h3, h4, h0, h5⟩ := h
  simp only [Value.slice.injEq, true_and] at h2
  obtain ⟨rfl, rfl⟩ := h2
  refine ⟨?_, ao, cap, rfl, by omega, h4, h0, fun j u hj => ?_⟩
  · rw [List.length_take, h1]
    exact Nat.min_eq_left (Nat.mul_le_mul_right _ hk)
  · rw [List.getElem?_take] at hj
    split at hj
    · exact h5 j u hj
    · cases hj
theorem cells2_take (l : List (Int × Int)) (k : Nat) : (cells2 l).take (k * 2) = cells2 (l.take k) := by
  induction l generalizing k with
  | nil => simp [cells2]
  | cons p l ih =>
    cases k with
    | zero => rfl
    | succ k =>
      rw [show (k + 1) * 2 = k * 2 + 2 by omega]
      show I p.1 :: I p.2 :: (cells2 l).take (k * 2) = _
      rw [ih]
      rfl
theorem Writes.take {w : World} {cap : Nat} {ao : Option Addr} {l : List (Int × Int)} (h : Writes w (.slice ao l.length cap) l) (k : Nat) (hk : k ≤ l.length) : Writes w (.slice ao k cap) (l.take k) := by
  have := Row.take h k hk
  rw [cells2_take] at this
  unfold Writes
  rw [List.length_take, Nat.min_eq_left hk]
  exact this

/-- A slice that is written out. -/
theorem writes_lit {w : World} (e : TypeId) (l : List (Int × Int)) (cs : Array Value) (n : Nat) (hc : cs.toList = cells2 l) (hn : l.length = n) (hm : n ≤ maxLen) : Writes (w.alloc (.cells cs e)) (.slice (some ⟨w.heap.size, 0, none⟩) n n) l := by
  subst hn
  have := World.ownsRow_lit (base := 0) (e := e) (size := 2) w cs l.length (Nat.zero_le _) hm (by rw [← Array.length_toList, hc, length_cells2])
  rw [hc] at this
  exact writes_of_owns this
theorem ints_lit {w : World} (e : TypeId) (l : List Int) (cs : Array Value) (n : Nat) (hc : cs.toList = l.map I) (hn : l.length = n) (hm : n ≤ maxLen) : Ints (w.alloc (.cells cs e)) (.slice (some ⟨w.heap.size, 0, none⟩) n n) l := by
  subst hn
  have := World.ownsRow_lit (base := 0) (e := e) (size := 1) w cs l.length (Nat.zero_le _) hm (by rw [← Array.length_toList, hc]; simp)
  rw [hc] at this
  exact ints_of_owns this

theorem Ext.grownBy {w w' : World} (h : Ext w w') (row : Option Nat) : w.grownBy w' row := ⟨h.os, h.tape, h.output, h.size, fun k hk _ => h.block k hk⟩
theorem owns_ext {w w' : World} {base e size n : Nat} {v : Value} {xs : List Value} (h : w.ownsRow base e size v n xs) (he : Ext w w') : w'.ownsRow base e size v n xs :=
  h.kept (he.grownBy none) (by cases hv : v.ownBlock with | none => exact .inl rfl | some k => exact .inr (by simp))
/-- A cell that lies in another row stays. -/
theorem grown_cell {w w' : World} {row : Option Nat} (hg : w.grownBy w' row) {b o : Nat} {v : Value} (h : w.cell? ⟨b, o, none⟩ = some v) (hne : row ≠ some b) : w'.cell? ⟨b, o, none⟩ = some v :=
  hg.cell h (fun e => hne e.symm)

theorem grown_trans {a b c : World} {row : Option Nat} (h : a.grownBy b row) (k : b.grownBy c row) : a.grownBy c row :=
  ⟨k.os.trans h.os, k.tape.trans h.tape, k.output.trans h.output, Nat.le_trans h.size k.size, fun i hi hne => (k.block i (Nat.lt_of_lt_of_le hi h.size) hne).trans (h.block i hi hne)⟩
theorem grown_drew {a b : World} {row : Option Nat} (h : a.grownBy b row) : a.grownBy b.drew row := ⟨h.os, h.tape, h.output, h.size, h.block⟩

/-- A contract of a call that leaves the world alone, met at a call. -/
theorem Calls.same {P : Program} {f : FuncId} {args : Array Value} {w : World} {v : Value} {Q : Ending → World → Prop} (h : Calls P f args w fun e w' => e = .returned v ∧ w' = w) (k : Q (.returned v) w) : Calls P f args w Q :=
  h.mono fun e w' ⟨he, hw⟩ => by rw [he, hw]; exact k
/-- .. of one that only draws. -/
theorem Calls.drawn {P : Program} {f : FuncId} {args : Array Value} {w : World} {v : Value} {Q : Ending → World → Prop} (h : Calls P f args w fun e w' => e = .returned v ∧ ∃ n, w' = w.drewN n) (k : ∀ n, Q (.returned v) (w.drewN n)) : Calls P f args w Q :=
  h.mono fun e w' ⟨he, n, hw⟩ => by rw [he, hw]; exact k n

/-- What a call gives: it returns, nothing that was there has turned, and T is known of the result. -/
def Gives (P : Program) (f : FuncId) (args : Array Value) (w : World) (T : Value → World → Prop) : Prop := Calls P f args w fun e w' => ∃ r, e = .returned r ∧ Ext w w' ∧ T r w'
theorem Gives.to {P : Program} {f : FuncId} {args : Array Value} {w : World} {T : Value → World → Prop} {Q : Ending → World → Prop} (h : Gives P f args w T) (k : ∀ r w', Ext w w' → T r w' → Q (.returned r) w') : Calls P f args w Q :=
  Calls.mono h fun e w' ⟨r, he, hx, ht⟩ => by rw [he]; exact k r w' hx ht
theorem Gives.mono {P : Program} {f : FuncId} {args : Array Value} {w : World} {T T' : Value → World → Prop} (h : Gives P f args w T) (k : ∀ r w', Ext w w' → T r w' → T' r w') : Gives P f args w T' :=
  Calls.mono h fun _ w' ⟨r, he, hx, ht⟩ => ⟨r, he, hx, k r w' hx ht⟩
theorem gives_same {P : Program} {f : FuncId} {args : Array Value} {w : World} {v : Value} (h : Calls P f args w fun e w' => e = .returned v ∧ w' = w) : Gives P f args w (fun r _ => r = v) :=
  Calls.mono h fun _ w' ⟨he, hw⟩ => ⟨v, he, by rw [hw]; exact Ext.refl _, rfl⟩
theorem gives_drawn {P : Program} {f : FuncId} {args : Array Value} {w : World} {v : Value} (h : Calls P f args w fun e w' => e = .returned v ∧ ∃ n, w' = w.drewN n) : Gives P f args w (fun r _ => r = v) :=
  Calls.mono h fun _ w' ⟨he, n, hw⟩ => ⟨v, he, by rw [hw]; exact Ext.of_drewN _ _, rfl⟩

/-- A call among the operations of a region. -/
theorem makes_gives {P : Program} {o : Oper} {a : Act} {f : FuncId} {args : Array Value} {w : World} {T : Value → World → Prop} (hrun : (execOp a.eval o).run P w = .ok (.enter f args) w) (h : Gives P f args w T) : makes P o a w T := makes_call hrun h
/-- .. of a builtin that makes memory, or an allocation. -/
theorem monoInts (xs : List Int) : ∀ v, MonoP (fun w => Ints w v xs) := fun _ _ _ he h => Ints.ext h he
theorem monoWrites (l : List (Int × Int)) : ∀ v, MonoP (fun w => Writes w v l) := fun _ _ _ he h => Writes.ext h he
theorem monoOwns (base e size n : Nat) (cs : List Value) : ∀ v, MonoP (fun w => w.ownsRow base e size v n cs) := fun _ _ _ he h => owns_ext h he
/-- A pointer to a cell that holds x. -/
def At (x : Value) (v : Value) (w : World) : Prop := ∃ p, v = .pointer (some p) ∧ w.cell? p = some x
theorem monoAt (x : Value) : ∀ v, MonoP (At x v) := fun _ _ _ he ⟨p, h1, h2⟩ => ⟨p, h1, he.cell h2⟩
end Go.Mk

/- Chapter 2, plain mathematics: all calls one by one, the names that cells have, and requests in memory. -/
import Derived.Test.YtdmipnnfoolelaaMath2
namespace Go.Mk
open Go Go.RowKit

/-- All calls, one by one. -/
def stepCl (s : List (Int × Int) × List (Int × Int)) (c : Cl) : List (Int × Int) × List (Int × Int) := ((doCl s.1 c).1, s.2 ++ [((doCl s.1 c).2.err, (doCl s.1 c).2.n)])

def allCl (cs : List Cl) : List (Int × Int) × List (Int × Int) := cs.foldl stepCl ([], [])

theorem allCl_snoc (cs : List Cl) (c : Cl) : allCl (cs ++ [c]) = stepCl (allCl cs) c := by simp [allCl]

theorem allCl_take {cs : List Cl} {k : Nat} {c : Cl} (h : cs[k]? = some c) : allCl (cs.take (k + 1)) = stepCl (allCl (cs.take k)) c := by
  rw [List.take_add_one, h]
  exact allCl_snoc _ _

theorem okn_nil : Okn [] := okn_of (by simp) (fun i hi => by simp at hi) (fun i j _ hj => by simp at hj)

theorem all_ok {cs : List Cl} (h : ∀ c ∈ cs, wrongCl c = 0) (k : Nat) : Okn (allCl (cs.take k)).1 ∧ (allCl (cs.take k)).2.length = min k cs.length := by
  induction k with
  | zero => exact ⟨okn_nil, by simp [allCl]⟩
  | succ k ih =>
    by_cases hk : k < cs.length
    · have hg : cs[k]? = some cs[k] := List.getElem?_eq_getElem hk
      rw [allCl_take hg]
      refine ⟨(okn_do ih.1 (h _ (List.getElem_mem hk))).1, ?_⟩
      simp only [stepCl, List.length_append, List.length_cons, List.length_nil, ih.2]
      omega
    · rw [List.take_of_length_le (by omega)]
      rw [List.take_of_length_le (by omega)] at ih
      exact ⟨ih.1, by rw [ih.2]; omega⟩

/-- The names that cells have. -/
def ofCells (xs : List Int) (n : Nat) : List (Int × Int) := (List.range n).map fun i => (xs.getD (1 + 2 * i) 0, xs.getD (1 + 2 * i + 1) 0)

theorem ofCells_succ (xs : List Int) (n : Nat) : ofCells xs (n + 1) = ofCells xs n ++ [(xs.getD (1 + 2 * n) 0, xs.getD (1 + 2 * n + 1) 0)] := by simp [ofCells, List.range_succ]

theorem length_ofCells (xs : List Int) (n : Nat) : (ofCells xs n).length = n := by simp [ofCells]

/-- Requests in memory. -/
def cells6 (l : List Rq) : List Value := l.flatMap fun r => [I r.client, I r.token, I r.call.kind, I r.call.name, I r.call.other, I r.call.n]

theorem length_cells6 (l : List Rq) : (cells6 l).length = l.length * 6 := by
  unfold cells6
  induction l with
  | nil => rfl
  | cons p l ih => simp [List.flatMap_cons, ih]; omega

theorem cells6_at (l : List Rq) (k : Nat) (r : Rq) (h : l[k]? = some r) : (cells6 l)[k * 6]? = some (I r.client) ∧ (cells6 l)[k * 6 + 1]? = some (I r.token) ∧ (cells6 l)[k * 6 + 2]? = some (I r.call.kind) ∧
    (cells6 l)[k * 6 + 3]? = some (I r.call.name) ∧ (cells6 l)[k * 6 + 4]? = some (I r.call.other) ∧ (cells6 l)[k * 6 + 5]? = some (I r.call.n) := by
  induction l generalizing k with
  | nil => simp at h
  | cons p l ih =>
    cases k with
    | zero =>
      simp at h
      subst h
      exact ⟨rfl, rfl, rfl, rfl, rfl, rfl⟩
    | succ k =>
      have := ih k (by simpa using h)
      rw [show (k + 1) * 6 = k * 6 + 6 by omega, show k * 6 + 6 + 1 = k * 6 + 1 + 6 by omega, show k * 6 + 6 + 2 = k * 6 + 2 + 6 by omega, show k * 6 + 6 + 3 = k * 6 + 3 + 6 by omega, show k * 6 + 6 + 4 = k * 6 + 4 + 6 by omega, show k * 6 + 6 + 5 = k * 6 + 5 + 6 by omega]
      exact this

/-- A slice of requests that reads as l. -/
def Reqs (w : World) (v : Value) (l : List Rq) : Prop := Row w 6 v l.length (cells6 l)

theorem Reqs.ext {w w' : World} {v : Value} {l : List Rq} (h : Reqs w v l) (he : Ext w w') : Reqs w' v l := Row.ext h he

theorem Reqs.form {w : World} {v : Value} {l : List Rq} (h : Reqs w v l) : ∃ ao cap, v = .slice ao l.length cap ∧ l.length ≤ cap ∧ cap ≤ maxLen ∧
    ∀ k r, l[k]? = some r → ∃ b off, ao = some ⟨b, off, none⟩ ∧ w.cell? ⟨b, off + k * 6, none⟩ = some (I r.client) ∧ w.cell? ⟨b, off + k * 6 + 1, none⟩ = some (I r.token) ∧ w.cell? ⟨b, off + k * 6 + 2, none⟩ = some (I r.call.kind) ∧
      w.cell? ⟨b, off + k * 6 + 3, none⟩ = some (I r.call.name) ∧ w.cell? ⟨b, off + k * 6 + 4, none⟩ = some (I r.call.other) ∧ w.cell? ⟨b, off + k * 6 + 5, none⟩ = some (I r.call.n) := by
  obtain ⟨_, ao, cap, h2, h3, h4, _, h5⟩ := h
  refine ⟨ao, cap, h2, h3, h4, fun k r hk => ?_⟩
  obtain ⟨c0, c1, c2, c3, c4, c5⟩ := cells6_at l k r hk
  obtain ⟨b, off, e, q0⟩ := h5 _ _ c0
  have all : ∀ j u, (cells6 l)[j]? = some u → w.cell? ⟨b, off + j, none⟩ = some u := fun j u hj => by
    obtain ⟨b', off', e', q⟩ := h5 j u hj
    rw [e] at e'
    simp only [Option.some.injEq, Addr.mk.injEq, and_true] at e'
    obtain ⟨rfl, rfl⟩ := e'
    exact q
  exact ⟨b, off, e, q0, all _ _ c1, all _ _ c2, all _ _ c3, all _ _ c4, all _ _ c5⟩

theorem doCl_count (l : List (Int × Int)) (a o n : Int) : doCl l ⟨5, a, o, n⟩ = (l, ⟨0, l.length⟩) := rfl

theorem doCl_put (l : List (Int × Int)) (a o n : Int) : doCl l ⟨1, a, o, n⟩ = if at1 l a < l.length then (put1 l (at1 l a) n, ⟨0, num l (at1 l a)⟩) else if 5 ≤ l.length then (l, ⟨9, 0⟩) else (l ++ [(a, n)], ⟨0, 0⟩) := rfl

theorem doCl_get (l : List (Int × Int)) (a o n : Int) : doCl l ⟨2, a, o, n⟩ = if ¬ at1 l a < l.length then (l, ⟨6, 0⟩) else (l, ⟨0, num l (at1 l a)⟩) := rfl

theorem doCl_drop (l : List (Int × Int)) (a o n : Int) : doCl l ⟨3, a, o, n⟩ = if ¬ at1 l a < l.length then (l, ⟨6, 0⟩) else ((l.set (at1 l a) (l.getD (l.length - 1) (0, 0))).take (l.length - 1), ⟨0, num l (at1 l a)⟩) := rfl

theorem doCl_add (l : List (Int × Int)) (a o n : Int) : doCl l ⟨4, a, o, n⟩ = if ¬ at1 l a < l.length then (l, ⟨6, 0⟩) else if ¬ (-1073741824 ≤ num l (at1 l a) + n ∧ num l (at1 l a) + n ≤ 1073741824) then (l, ⟨3, 0⟩) else (put1 l (at1 l a) (num l (at1 l a) + n), ⟨0, num l (at1 l a) + n⟩) := rfl

theorem doCl_swap' (l : List (Int × Int)) (a b n : Int) : doCl l ⟨6, a, b, n⟩ = if ¬ at1 l a < l.length then (l, ⟨6, 0⟩) else if ¬ at1 l b < l.length then (l, ⟨6, 0⟩)
    else (put1 (put1 l (at1 l a) (num l (at1 l b))) (at1 l b) (num l (at1 l a)), ⟨0, num l (at1 l b)⟩) := rfl

theorem wrongCl_zero {k a o n : Int} (h : wrongCl ⟨k, a, o, n⟩ = 0) : (k = 1 ∨ k = 2 ∨ k = 3 ∨ k = 4 ∨ k = 5 ∨ k = 6) ∧ (k = 1 ∨ k = 4 → -1073741824 ≤ n ∧ n ≤ 1073741824) := by
  unfold wrongCl at h
  dsimp only at h
  repeat' split at h
  all_goals first | exact absurd h (by decide) | (constructor <;> omega)

end Go.Mk

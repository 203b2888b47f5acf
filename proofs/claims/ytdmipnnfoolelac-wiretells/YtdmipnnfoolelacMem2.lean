/- Slices of bytes, said of the cells of memory; what conversions make of them. -/
import Derived.Test.YtdmipnnfoolelacMem
import Derived.Laws.IdiomStrings
namespace Go.Mk
open Go Go.RowKit

/-- A byte as a value, and a slice of bytes. -/
abbrev U (b : UInt8) : Value := .int .u8 (b.toNat : Int)

def Bytes (w : World) (v : Value) (l : List UInt8) : Prop := Row w 1 v l.length (l.map U)
theorem Bytes.ext {w w' : World} {v : Value} {l : List UInt8} (h : Bytes w v l) (he : Ext w w') : Bytes w' v l := Row.ext h he
theorem Bytes.form {w : World} {v : Value} {l : List UInt8} (h : Bytes w v l) : ∃ ao cap, v = .slice ao l.length cap ∧ l.length ≤ cap ∧ cap ≤ maxLen ∧
    ∀ k, k < l.length → ∃ b off, ao = some ⟨b, off, none⟩ ∧ w.cell? ⟨b, off + k, none⟩ = some (U (l.getD k 0)) := by
  obtain ⟨_, ao, cap, h2, h3, h4, _, h5⟩ := h
  refine ⟨ao, cap, h2, h3, h4, fun k hk => ?_⟩
  exact h5 k _ (by simp [hk])
theorem mapU_one (l : List UInt8) : ∀ u ∈ l.map U, u.oneCell' = true := by
  intro u hu
  obtain ⟨x, _, rfl⟩ := List.mem_map.1 hu
  rfl
theorem bytes_of_owns {w : World} {base e n : Nat} {v : Value} {l : List UInt8} (h : w.ownsRow base e 1 v n (l.map U)) : Bytes w v l := by
  have hl : l.length = n := by simpa using h.1
  subst hl
  exact Row.of_owns h
theorem bytes_nil (w : World) : Bytes w (.slice none 0 0) [] := bytes_of_owns (World.ownsRow_nil w 0 0 1)
theorem monoBytes (l : List UInt8) : ∀ v, MonoP (fun w => Bytes w v l) := fun _ _ _ he h => Bytes.ext h he

theorem bytes_lit {w : World} (e : TypeId) (l : List UInt8) (cs : Array Value) (n : Nat) (hc : cs.toList = l.map U) (hn : l.length = n) (hm : n ≤ maxLen) : Bytes (w.alloc (.cells cs e)) (.slice (some ⟨w.heap.size, 0, none⟩) n n) l := by
  subst hn
  have := World.ownsRow_lit (base := 0) (e := e) (size := 1) w cs l.length (Nat.zero_le _) hm (by rw [← Array.length_toList, hc]; simp)
  rw [hc] at this
  exact bytes_of_owns this

/-- 'string(b)'. -/
theorem run_string_of {P : Program} {w : World} {v : Value} {l : List UInt8} (h : Bytes w v l) {src dst e : TypeId} (hs : P.underlying src = some (.slice e)) (he : P.underlying e = some (.int .u8)) (hd : P.underlying dst = some .string) :
    (convert src dst v).run P w = .ok (.string ⟨l.toArray⟩) w := by
  obtain ⟨hl, ao, cap, rfl, hc, hm, h0, hcell⟩ := h
  cases ao with
  | none =>
    have hcap := h0 rfl
    subst hcap
    have hln : l = [] := List.eq_nil_of_length_eq_zero (by omega)
    subst hln
    rw [run_convert_bytes_string w src dst e _ _ _ hs he hd]
    rfl
  | some a =>
    refine run_convert_bytes_back w src dst e a cap l hs he hd (fun j hj => ?_)
    obtain ⟨b, off, e', hc'⟩ := hcell j (U l[j]) (by simp [hj])
    simp only [Option.some.injEq] at e'
    subst e'
    rw [add_plain]
    exact hc'

/-- '[]byte(s)': new memory. -/
theorem bytes_of_string (w : World) (e : TypeId) (l : List UInt8) (hl : l.length ≤ maxLen) (fr : Nat × Nat) :
    Bytes (w.drew.alloc (.cells (bytesRow ⟨l.toArray⟩ (grownCap w l.length 0 e)) e fr)) (.slice (some ⟨w.heap.size, 0, none⟩) l.length (grownCap w l.length 0 e)) l := by
  refine ⟨by simp, _, _, rfl, grownCap_ge _ _ _ _, grownCap_le_maxLen _ _ _ _ hl, (fun h => by cases h), fun j u hj => ⟨w.heap.size, 0, rfl, ?_⟩⟩
  have hj' : j < l.length := by have := (List.getElem?_eq_some_iff.1 hj).1; simpa using this
  have := World.cell?_alloc_mark w.drew (bytesRow ⟨l.toArray⟩ (grownCap w l.length 0 e)) e fr j
  rw [Nat.zero_add]
  refine Eq.trans this ?_
  rw [bytesRow_at _ _ _ (by simpa using hj')]
  simp [hj'] at hj
  simpa using hj

/-- b[k:]. -/
theorem Bytes.drop {w : World} {l : List UInt8} {b off n cap : Nat} (h : Bytes w (.slice (some ⟨b, off, none⟩) n cap) l) (k : Nat) (hk : k ≤ l.length) : Bytes w (.slice (some ⟨b, off + k, none⟩) (l.length - k) (cap - k)) (l.drop k) := by
  obtain ⟨hl, ao', cap', h2, h3, h4, h0, h5⟩ := h
  simp only [Value.slice.injEq] at h2
  obtain ⟨rfl, rfl, rfl⟩ := h2
  have hd : (l.drop k).length = l.length - k := List.length_drop
  unfold Bytes
  rw [hd]
  refine ⟨by simp, _, _, rfl, by omega, by omega, (fun h => by cases h), fun j u hj => ?_⟩
  rw [List.getElem?_map, List.getElem?_drop, ← List.getElem?_map] at hj
  obtain ⟨b', off', e', hc'⟩ := h5 (k + j) u hj
  simp only [Option.some.injEq, Addr.mk.injEq, and_true] at e'
  obtain ⟨rfl, rfl⟩ := e'
  exact ⟨b, off + k, rfl, by rw [Nat.add_assoc]; exact hc'⟩

/-- Bytes that lie in a block from base on. -/
def BytesAt (base : Nat) (w : World) (v : Value) (l : List UInt8) : Prop := ∃ b off n cap, v = .slice (some ⟨b, off, none⟩) n cap ∧ base ≤ b ∧ Bytes w v l
theorem BytesAt.bytes {base : Nat} {w : World} {v : Value} {l : List UInt8} (h : BytesAt base w v l) : Bytes w v l := by
  obtain ⟨_, _, _, _, _, _, h⟩ := h
  exact h
theorem monoBytesAt (base : Nat) (l : List UInt8) : ∀ v, MonoP (fun w => BytesAt base w v l) := fun _ _ _ he ⟨b, o, n, c, e, hb, h⟩ => ⟨b, o, n, c, e, hb, h.ext he⟩

end Go.Mk

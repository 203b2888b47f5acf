/- Texts of the proof, merged: Read2 Mem2 Math7 Read3 Mem3 Math1 Math5 Math8 Math9 Mem4. -/
import Derived.Test.YtdmipnnfoolelacKA
import Derived.Deep.Strs
import Derived.Laws.IdiomStrings

namespace Go.Mk
open Go Go.RowKit Go.ChangeShapes Go.WideShapes

section
variable {P : Program} {H : Type} {enc : TypeId × Value → H} {W : World} {X : Type}

theorem trod_call {e : TypeId} {f0 f1 f2 f3 : Field} {fuel : Nat} {cs : List Value} {z : DataW H × List MemPlace} (he : P.underlying e = some (.struct #[f0, f1, f2, f3])) (hc : P.cellsOf e = 4)
    (h0 : P.underlying f0.type = some (.int .i64)) (h1 : P.underlying f1.type = some (.int .i64)) (h2 : P.underlying f2.type = some (.int .i64)) (h3 : P.underlying f3.type = some (.int .i64))
    (o0 : f0.offset = 0) (o1 : f1.offset = 1) (o2 : f2.offset = 2) (o3 : f3.offset = 3) (c0 : P.cellsOf f0.type = 1) (c1 : P.cellsOf f1.type = 1) (c2 : P.cellsOf f2.type = 1) (c3 : P.cellsOf f3.type = 1)
    (hz : DataW.trod enc P W 0 (fun _ => true) true fuel e cs = some z) : ∃ c : Cl, cs = [I c.kind, I c.name, I c.other, I c.n] := by
  obtain ⟨y0, y1, y2, y3, m, hx, hcl, t0, t1, t2, t3⟩ := Go.Joins.trod_struct4 he hz
  rw [hc] at hcl
  obtain ⟨u0, u1, u2, u3, rfl⟩ : ∃ u0 u1 u2 u3, cs = [u0, u1, u2, u3] := by
    match cs, hcl with
    | [u0, u1, u2, u3], _ => exact ⟨u0, u1, u2, u3, rfl⟩
  rw [o0, c0] at t0
  rw [o1, c1] at t1
  rw [o2, c2] at t2
  rw [o3, c3] at t3
  obtain ⟨x0, e0, _⟩ := DataW.trod_int h0 t0
  obtain ⟨x1, e1, _⟩ := DataW.trod_int h1 t1
  obtain ⟨x2, e2, _⟩ := DataW.trod_int h2 t2
  obtain ⟨x3, e3, _⟩ := DataW.trod_int h3 t3
  simp at e0 e1 e2 e3
  exact ⟨⟨x0, x1, x2, x3⟩, by rw [e0, e1, e2, e3]⟩

/-- A call by value. -/
theorem read_call {e : TypeId} {f0 f1 f2 f3 : Field} {v : Value} {d : DataW H} {p : List MemPlace} (he : P.underlying e = some (.struct #[f0, f1, f2, f3])) (hc : P.cellsOf e = 4)
    (h0 : P.underlying f0.type = some (.int .i64)) (h1 : P.underlying f1.type = some (.int .i64)) (h2 : P.underlying f2.type = some (.int .i64)) (h3 : P.underlying f3.type = some (.int .i64))
    (o0 : f0.offset = 0) (o1 : f1.offset = 1) (o2 : f2.offset = 2) (o3 : f3.offset = 3) (c0 : P.cellsOf f0.type = 1) (c1 : P.cellsOf f1.type = 1) (c2 : P.cellsOf f2.type = 1) (c3 : P.cellsOf f3.type = 1)
    {b0 : Nat} (hv : Value.okWide P W .any b0 e v) (h : DataW.Trod enc P W 0 (fun _ => true) true e v d p) : ∃ k a o n : Int, v = .agg #[I k, I a, I o, I n] := by
  obtain ⟨cs, rfl, hsz⟩ := okWide_struct he hv
  obtain ⟨fuel, hf⟩ := h
  obtain ⟨c, hx⟩ := trod_call he hc h0 h1 h2 h3 o0 o1 o2 o3 c0 c1 c2 c3 hf
  refine ⟨c.kind, c.name, c.other, c.n, ?_⟩
  simp only [Value.cells] at hx
  rw [show cs = #[I c.kind, I c.name, I c.other, I c.n] from by cases cs; simp_all]

theorem trod_req {e : TypeId} {g0 g1 g2 f0 f1 f2 f3 : Field} {fuel : Nat} {cs : List Value} {z : DataW H × List MemPlace} (he : P.underlying e = some (.struct #[g0, g1, g2])) (hc : P.cellsOf e = 6)
    (i0 : P.underlying g0.type = some (.int .i64)) (i1 : P.underlying g1.type = some (.int .i64)) (i2 : P.underlying g2.type = some (.struct #[f0, f1, f2, f3]))
    (q0 : g0.offset = 0) (q1 : g1.offset = 1) (q2 : g2.offset = 2) (d0 : P.cellsOf g0.type = 1) (d1 : P.cellsOf g1.type = 1) (d2 : P.cellsOf g2.type = 4)
    (h0 : P.underlying f0.type = some (.int .i64)) (h1 : P.underlying f1.type = some (.int .i64)) (h2 : P.underlying f2.type = some (.int .i64)) (h3 : P.underlying f3.type = some (.int .i64))
    (o0 : f0.offset = 0) (o1 : f1.offset = 1) (o2 : f2.offset = 2) (o3 : f3.offset = 3) (c0 : P.cellsOf f0.type = 1) (c1 : P.cellsOf f1.type = 1) (c2 : P.cellsOf f2.type = 1) (c3 : P.cellsOf f3.type = 1)
    (hz : DataW.trod enc P W 0 (fun _ => true) true fuel e cs = some z) : ∃ r : Rq, cs = [I r.client, I r.token, I r.call.kind, I r.call.name, I r.call.other, I r.call.n] := by
  obtain ⟨y0, y1, y2, m, hx, hcl, t0, t1, t2⟩ := Go.Deep.trod_struct3 he hz
  rw [hc] at hcl
  obtain ⟨u0, u1, u2, u3, u4, u5, rfl⟩ : ∃ u0 u1 u2 u3 u4 u5, cs = [u0, u1, u2, u3, u4, u5] := by
    match cs, hcl with
    | [u0, u1, u2, u3, u4, u5], _ => exact ⟨u0, u1, u2, u3, u4, u5, rfl⟩
  rw [q0, d0] at t0
  rw [q1, d1] at t1
  rw [q2, d2] at t2
  obtain ⟨x0, e0, _⟩ := DataW.trod_int i0 t0
  obtain ⟨x1, e1, _⟩ := DataW.trod_int i1 t1
  obtain ⟨c, e2⟩ := trod_call i2 d2 h0 h1 h2 h3 o0 o1 o2 o3 c0 c1 c2 c3 t2
  simp at e0 e1 e2
  obtain ⟨e2, e3, e4, e5⟩ := e2
  exact ⟨⟨x0, x1, c⟩, by rw [e0, e1, e2, e3, e4, e5]⟩

theorem read_reqs {t e : TypeId} {g0 g1 g2 f0 f1 f2 f3 : Field} {v : Value} {d : DataW H} {p : List MemPlace} (ht : P.underlying t = some (.slice e)) (he : P.underlying e = some (.struct #[g0, g1, g2])) (hc : P.cellsOf e = 6)
    (i0 : P.underlying g0.type = some (.int .i64)) (i1 : P.underlying g1.type = some (.int .i64)) (i2 : P.underlying g2.type = some (.struct #[f0, f1, f2, f3]))
    (q0 : g0.offset = 0) (q1 : g1.offset = 1) (q2 : g2.offset = 2) (d0 : P.cellsOf g0.type = 1) (d1 : P.cellsOf g1.type = 1) (d2 : P.cellsOf g2.type = 4)
    (h0 : P.underlying f0.type = some (.int .i64)) (h1 : P.underlying f1.type = some (.int .i64)) (h2 : P.underlying f2.type = some (.int .i64)) (h3 : P.underlying f3.type = some (.int .i64))
    (o0 : f0.offset = 0) (o1 : f1.offset = 1) (o2 : f2.offset = 2) (o3 : f3.offset = 3) (c0 : P.cellsOf f0.type = 1) (c1 : P.cellsOf f1.type = 1) (c2 : P.cellsOf f2.type = 1) (c3 : P.cellsOf f3.type = 1)
    {b0 : Nat} (hv : Value.okWide P W .any b0 t v) (h : DataW.Trod enc P W 0 (fun _ => true) true t v d p) :
    ∃ l : List Rq, Reqs W v l ∧ (l = [] ∨ ∃ elems spare, d = .slice elems spare ∧ elems.length = l.length) := by
  obtain ⟨a0, len, cap, rfl⟩ := okWide_slice ht hv
  obtain ⟨fuel, hf⟩ := h
  obtain ⟨xs, css, hr, hl, hq, hs⟩ := read_slice (X := Rq) (by decide) (fun cs r => cs = [I r.client, I r.token, I r.call.kind, I r.call.name, I r.call.other, I r.call.n]) ht hc (fun fuel cs z hz _ => trod_req he hc i0 i1 i2 q0 q1 q2 d0 d1 d2 h0 h1 h2 h3 o0 o1 o2 o3 c0 c1 c2 c3 hz) rfl hf
  refine ⟨xs, ?_, hs⟩
  rw [flat_of (f := fun r => [I r.client, I r.token, I r.call.kind, I r.call.name, I r.call.other, I r.call.n]) hl (fun i c x hc hx => (hq i c x hc hx).2)] at hr
  exact hr

end
end Go.Mk

namespace Go.Mk
open Go Go.RowKit

/-- A byte as a value, and a slice of bytes. -/
abbrev U (b : UInt8) : Value := .int .u8 (b.toNat : Int)

def Bytes (w : World) (v : Value) (l : List UInt8) : Prop := Row w 1 v l.length (l.map U)
theorem Bytes.ext {w w' : World} {v : Value} {l : List UInt8} (h : Bytes w v l) (he : Ext w w') : Bytes w' v l := Row.ext h he
theorem Bytes.form {w : World} {v : Value} {l : List UInt8} (h : Bytes w v l) : ∃ ao cap, v = .slice ao l.length cap ∧ l.length ≤ cap ∧ cap ≤ maxLen ∧
    ∀ k, k < l.length → ∃ b off, ao = some ⟨b, off, none⟩ ∧ w.cell? ⟨b, off + k, none⟩ = some (U (l.getD k 0)) := by
  obtain ⟨_, ao, cap, h2, h3, h4, _, h5⟩ := h
  refine ⟨ao, cap, h2, h3, h4, fun k hk => ?_⟩
  exact h5 k _ (by simp [hk])
theorem mapU_one (l : List UInt8) : ∀ u ∈ l.map U, u.oneCell' = true := by
  intro u hu
  obtain ⟨x, _, rfl⟩ := List.mem_map.1 hu
  rfl
theorem bytes_of_owns {w : World} {base e n : Nat} {v : Value} {l : List UInt8} (h : w.ownsRow base e 1 v n (l.map U)) : Bytes w v l := by
  have hl : l.length = n := by simpa using h.1
  subst hl
  exact Row.of_owns h
theorem bytes_nil (w : World) : Bytes w (.slice none 0 0) [] := bytes_of_owns (World.ownsRow_nil w 0 0 1)
theorem monoBytes (l : List UInt8) : ∀ v, MonoP (fun w => Bytes w v l) := fun _ _ _ he h => Bytes.ext h he

theorem bytes_lit {w : World} (e : TypeId) (l : List UInt8) (cs : Array Value) (n : Nat) (hc : cs.toList = l.map U) (hn : l.length = n) (hm : n ≤ maxLen) : Bytes (w.alloc (.cells cs e)) (.slice (some ⟨w.heap.size, 0, none⟩) n n) l := by
  subst hn
  have := World.ownsRow_lit (base := 0) (e := e) (size := 1) w cs l.length (Nat.zero_le _) hm (by rw [← Array.length_toList, hc]; simp)
  rw [hc] at this
  exact bytes_of_owns this

/-- 'string(b)'. -/
theorem run_string_of {P : Program} {w : World} {v : Value} {l : List UInt8} (h : Bytes w v l) {src dst e : TypeId} (hs : P.underlying src = some (.slice e)) (he : P.underlying e = some (.int .u8)) (hd : P.underlying dst = some .string) :
    (convert src dst v).run P w = .ok (.string ⟨l.toArray⟩) w := by
  obtain ⟨hl, ao, cap, rfl, hc, hm, h0, hcell⟩ := h
  cases ao with
  | none =>
    have hcap := h0 rfl
    subst hcap
    have hln : l = [] := List.eq_nil_of_length_eq_zero (by omega)
    subst hln
    rw [run_convert_bytes_string w src dst e _ _ _ hs he hd]
    rfl
  | some a =>
    refine run_convert_bytes_back w src dst e a cap l hs he hd (fun j hj => ?_)
    obtain ⟨b, off, e', hc'⟩ := hcell j (U l[j]) (by simp [hj])
    simp only [Option.some.injEq] at e'
    subst e'
    rw [add_plain]
    exact hc'

/-- '[]byte(s)': new memory. -/
theorem bytes_of_string (w : World) (e : TypeId) (l : List UInt8) (hl : l.length ≤ maxLen) (fr : Nat × Nat) :
    Bytes (w.drew.alloc (.cells (bytesRow ⟨l.toArray⟩ (grownCap w l.length 0 e)) e fr)) (.slice (some ⟨w.heap.size, 0, none⟩) l.length (grownCap w l.length 0 e)) l := by
  refine ⟨by simp, _, _, rfl, grownCap_ge _ _ _ _, grownCap_le_maxLen _ _ _ _ hl, (fun h => by cases h), fun j u hj => ⟨w.heap.size, 0, rfl, ?_⟩⟩
  have hj' : j < l.length := by have := (List.getElem?_eq_some_iff.1 hj).1; simpa using this
  have := World.cell?_alloc_mark w.drew (bytesRow ⟨l.toArray⟩ (grownCap w l.length 0 e)) e fr j
  rw [Nat.zero_add]
  refine Eq.trans this ?_
  rw [bytesRow_at _ _ _ (by simpa using hj')]
  simp [hj'] at hj
  simpa using hj

/-- b[k:]. -/
theorem Bytes.drop {w : World} {l : List UInt8} {b off n cap : Nat} (h : Bytes w (.slice (some ⟨b, off, none⟩) n cap) l) (k : Nat) (hk : k ≤ l.length) : Bytes w (.slice (some ⟨b, off + k, none⟩) (l.length - k) (cap - k)) (l.drop k) := by
  obtain ⟨hl, ao', cap', h2, h3, h4, h0, h5⟩ := h
  simp only [Value.slice.injEq] at h2
  obtain ⟨rfl, rfl, rfl⟩ := h2
  have hd : (l.drop k).length = l.length - k := List.length_drop
  unfold Bytes
  rw [hd]
  refine ⟨by simp, _, _, rfl, by omega, by omega, (fun h => by cases h), fun j u hj => ?_⟩
  rw [List.getElem?_map, List.getElem?_drop, ← List.getElem?_map] at hj
  obtain ⟨b', off', e', hc'⟩ := h5 (k + j) u hj
  simp only [Option.some.injEq, Addr.mk.injEq, and_true] at e'
  obtain ⟨rfl, rfl⟩ := e'
  exact ⟨b, off + k, rfl, by rw [Nat.add_assoc]; exact hc'⟩

/-- Bytes that lie in a block from base on. -/
def BytesAt (base : Nat) (w : World) (v : Value) (l : List UInt8) : Prop := ∃ b off n cap, v = .slice (some ⟨b, off, none⟩) n cap ∧ base ≤ b ∧ Bytes w v l
theorem BytesAt.bytes {base : Nat} {w : World} {v : Value} {l : List UInt8} (h : BytesAt base w v l) : Bytes w v l := by
  obtain ⟨_, _, _, _, _, _, h⟩ := h
  exact h
theorem monoBytesAt (base : Nat) (l : List UInt8) : ∀ v, MonoP (fun w => BytesAt base w v l) := fun _ _ _ he ⟨b, o, n, c, e, hb, h⟩ => ⟨b, o, n, c, e, hb, h.ext he⟩

end Go.Mk

namespace Go.Mk
open Go Go.RowKit

structure An where
  client : Int
  token : Int
  reply : Rp

def whoOk (c t : Int) : Prop := 0 ≤ c ∧ c < 3 ∧ 0 ≤ t ∧ t < 8
def wrongRq (r : Rq) : Int := if ¬ (0 ≤ r.client ∧ r.client < 3 ∧ 0 ≤ r.token ∧ r.token < 8) then 3 else wrongCl r.call
def wrongAn (a : An) : Int :=
  if ¬ (0 ≤ a.client ∧ a.client < 3 ∧ 0 ≤ a.token ∧ a.token < 8) ∨ a.reply.err < 0 ∨ 12 < a.reply.err ∨ 1073741824 < a.reply.n ∨ a.reply.n < -1073741824 ∨ (0 < a.reply.err ∧ a.reply.n ≠ 0) then 3 else 0

/-- A number in a byte, and in four. -/
def byteOf (n : Int) : UInt8 := UInt8.ofNat (n % 256).toNat
def u32 (n : Int) : Nat := (n % 4294967296).toNat
def fourB (n : Int) : List UInt8 := [UInt8.ofNat (u32 n / 16777216), UInt8.ofNat (u32 n / 65536 % 256), UInt8.ofNat (u32 n / 256 % 256), UInt8.ofNat (u32 n % 256)]
def int32 (u : Nat) : Int := if u < 2147483648 then (u : Int) else (u : Int) - 4294967296
def numB (b : List UInt8) : Int := int32 ((((b.getD 0 0).toNat * 256 + (b.getD 1 0).toNat) * 256 + (b.getD 2 0).toNat) * 256 + (b.getD 3 0).toNat)

theorem byteOf_toNat {n : Int} (h0 : 0 ≤ n) (h1 : n ≤ 255) : ((byteOf n).toNat : Int) = n := by
  unfold byteOf
  rw [UInt8.toNat_ofNat']
  omega
theorem byteOf_of (b : UInt8) : byteOf (b.toNat : Int) = b := by
  have := b.toNat_lt
  unfold byteOf
  have e : (((b.toNat : Int) % 256).toNat) = b.toNat := by omega
  rw [e]
  simp
theorem u32_lt (n : Int) : u32 n < 4294967296 := by unfold u32; omega
theorem int32_u32 {n : Int} (h0 : -2147483648 ≤ n) (h1 : n < 2147483648) : int32 (u32 n) = n := by
  unfold int32 u32
  split <;> omega
theorem numB_four {n : Int} (h0 : -2147483648 ≤ n) (h1 : n < 2147483648) : numB (fourB n) = n := by
  have hu := u32_lt n
  unfold numB fourB
  simp only [List.getD_cons_zero, List.getD_cons_succ, UInt8.toNat_ofNat']
  have e : (((u32 n / 16777216 % 256) * 256 + u32 n / 65536 % 256 % 256) * 256 + u32 n / 256 % 256 % 256) * 256 + u32 n % 256 % 256 = u32 n := by omega
  rw [show (2 ^ 8 : Nat) = 256 from rfl, e, int32_u32 h0 h1]
theorem four_numB (a b c d : UInt8) : fourB (numB [a, b, c, d]) = [a, b, c, d] := by
  have ha := a.toNat_lt
  have hb := b.toNat_lt
  have hc := c.toNat_lt
  have hd := d.toNat_lt
  have e : u32 (numB [a, b, c, d]) = ((a.toNat * 256 + b.toNat) * 256 + c.toNat) * 256 + d.toNat := by
    unfold numB int32 u32
    simp only [List.getD_cons_zero, List.getD_cons_succ]
    split <;> omega
  unfold fourB
  rw [e]
  have e1 : (((a.toNat * 256 + b.toNat) * 256 + c.toNat) * 256 + d.toNat) / 16777216 = a.toNat := by omega
  have e2 : (((a.toNat * 256 + b.toNat) * 256 + c.toNat) * 256 + d.toNat) / 65536 % 256 = b.toNat := by omega
  have e3 : (((a.toNat * 256 + b.toNat) * 256 + c.toNat) * 256 + d.toNat) / 256 % 256 = c.toNat := by omega
  have e4 : (((a.toNat * 256 + b.toNat) * 256 + c.toNat) * 256 + d.toNat) % 256 = d.toNat := by omega
  rw [e1, e2, e3, e4]
  simp

def zeroRq : Rq := ⟨0, 0, ⟨0, 0, 0, 0⟩⟩
def zeroAn : An := ⟨0, 0, ⟨0, 0⟩⟩
def reqB (r : Rq) : List UInt8 := [113, byteOf r.client, byteOf r.token, byteOf r.call.kind, byteOf r.call.name, byteOf r.call.other] ++ fourB r.call.n
def ansB (a : An) : List UInt8 := [97, byteOf a.client, byteOf a.token, byteOf a.reply.err] ++ fourB a.reply.n
def rqOf (b : List UInt8) : Rq := ⟨(b.getD 1 0).toNat, (b.getD 2 0).toNat, ⟨(b.getD 3 0).toNat, (b.getD 4 0).toNat, (b.getD 5 0).toNat, numB (b.drop 6)⟩⟩
def anOf (b : List UInt8) : An := ⟨(b.getD 1 0).toNat, (b.getD 2 0).toNat, ⟨(b.getD 3 0).toNat, numB (b.drop 4)⟩⟩
def readRq (b : List UInt8) : Rq × Int :=
  if b.length ≠ 10 ∨ b.getD 0 0 ≠ 113 then (zeroRq, 2) else if wrongRq (rqOf b) ≠ 0 then (zeroRq, wrongRq (rqOf b)) else (rqOf b, 0)
def readAn (b : List UInt8) : An × Int :=
  if b.length ≠ 8 ∨ b.getD 0 0 ≠ 97 then (zeroAn, 2) else if wrongAn (anOf b) ≠ 0 then (zeroAn, wrongAn (anOf b)) else (anOf b, 0)

theorem wrongRq_parts {r : Rq} (h : wrongRq r = 0) : (0 ≤ r.client ∧ r.client < 3 ∧ 0 ≤ r.token ∧ r.token < 8) ∧ wrongCl r.call = 0 := by
  unfold wrongRq at h
  split at h
  · exact absurd h (by decide)
  · rename_i hw
    exact ⟨by omega, h⟩
theorem wrongCl_bytes {c : Cl} (h : wrongCl c = 0) : (0 ≤ c.kind ∧ c.kind ≤ 255) ∧ (0 ≤ c.name ∧ c.name ≤ 255) ∧ (0 ≤ c.other ∧ c.other ≤ 255) ∧ (-1073741824 ≤ c.n ∧ c.n ≤ 1073741824) := by
  unfold wrongCl at h
  repeat' split at h
  all_goals first | exact absurd h (by decide) | skip
  refine ⟨?_, ?_, ?_, ?_⟩ <;> omega
theorem wrongAn_parts {a : An} (h : wrongAn a = 0) : (0 ≤ a.client ∧ a.client < 3 ∧ 0 ≤ a.token ∧ a.token < 8) ∧ (0 ≤ a.reply.err ∧ a.reply.err ≤ 12) ∧ (-1073741824 ≤ a.reply.n ∧ a.reply.n ≤ 1073741824) ∧ (0 < a.reply.err → a.reply.n = 0) := by
  unfold wrongAn at h
  split at h
  · exact absurd h (by decide)
  · rename_i hw
    omega
theorem rqOf_req {r : Rq} (h : wrongRq r = 0) : rqOf (reqB r) = r := by
  obtain ⟨hw, hc⟩ := wrongRq_parts h
  obtain ⟨h1, h2, h3, h4⟩ := wrongCl_bytes hc
  obtain ⟨cl, tk, ⟨k, a, o, n⟩⟩ := r
  simp only at *
  have e : rqOf (reqB ⟨cl, tk, ⟨k, a, o, n⟩⟩) = ⟨((byteOf cl).toNat : Int), ((byteOf tk).toNat : Int), ⟨((byteOf k).toNat : Int), ((byteOf a).toNat : Int), ((byteOf o).toNat : Int), numB (fourB n)⟩⟩ := rfl
  rw [e, byteOf_toNat (by omega) (by omega), byteOf_toNat (by omega) (by omega), byteOf_toNat h1.1 h1.2, byteOf_toNat h2.1 h2.2, byteOf_toNat h3.1 h3.2, numB_four (by omega) (by omega)]
theorem anOf_ans {a : An} (h : wrongAn a = 0) : anOf (ansB a) = a := by
  obtain ⟨hw, h1, h2, _⟩ := wrongAn_parts h
  obtain ⟨cl, tk, ⟨e0, n⟩⟩ := a
  simp only at *
  have e : anOf (ansB ⟨cl, tk, ⟨e0, n⟩⟩) = ⟨((byteOf cl).toNat : Int), ((byteOf tk).toNat : Int), ⟨((byteOf e0).toNat : Int), numB (fourB n)⟩⟩ := rfl
  rw [e, byteOf_toNat (by omega) (by omega), byteOf_toNat (by omega) (by omega), byteOf_toNat (by omega) (by omega), numB_four (by omega) (by omega)]
/-- There, and back. -/
theorem readRq_req {r : Rq} (h : wrongRq r = 0) : readRq (reqB r) = (r, 0) := by
  have hl : (reqB r).length = 10 := rfl
  have h0 : (reqB r).getD 0 0 = 113 := rfl
  unfold readRq
  rw [if_neg (by rw [hl, h0]; simp), rqOf_req h, if_neg (by simp [h])]
theorem readAn_ans {a : An} (h : wrongAn a = 0) : readAn (ansB a) = (a, 0) := by
  have hl : (ansB a).length = 8 := rfl
  have h0 : (ansB a).getD 0 0 = 97 := rfl
  unfold readAn
  rw [if_neg (by rw [hl, h0]; simp), anOf_ans h, if_neg (by simp [h])]
theorem req_readRq {b : List UInt8} {r : Rq} (h : readRq b = (r, 0)) : reqB r = b ∧ wrongRq r = 0 := by
  unfold readRq at h
  by_cases h1 : b.length ≠ 10 ∨ b.getD 0 0 ≠ 113
  · rw [if_pos h1] at h; cases h
  rw [if_neg h1] at h
  by_cases h2 : wrongRq (rqOf b) ≠ 0
  · rw [if_pos h2] at h
    injection h with _ h
    exact absurd h h2
  rw [if_neg h2] at h
  injection h with h _
  subst h
  refine ⟨?_, by simpa using h2⟩
  have hl : b.length = 10 := by simpa using (not_or.1 h1).1
  have h0 : b.getD 0 0 = 113 := by simpa using (not_or.1 h1).2
  match b, hl, h0 with
  | [b0, b1, b2, b3, b4, b5, b6, b7, b8, b9], _, h0 =>
    have h0 : b0 = 113 := h0
    subst h0
    show [113, byteOf (b1.toNat : Int), byteOf (b2.toNat : Int), byteOf (b3.toNat : Int), byteOf (b4.toNat : Int), byteOf (b5.toNat : Int)] ++ fourB (numB [b6, b7, b8, b9]) = _
    rw [byteOf_of, byteOf_of, byteOf_of, byteOf_of, byteOf_of, four_numB]
    rfl
theorem ans_readAn {b : List UInt8} {a : An} (h : readAn b = (a, 0)) : ansB a = b ∧ wrongAn a = 0 := by
  unfold readAn at h
  by_cases h1 : b.length ≠ 8 ∨ b.getD 0 0 ≠ 97
  · rw [if_pos h1] at h; cases h
  rw [if_neg h1] at h
  by_cases h2 : wrongAn (anOf b) ≠ 0
  · rw [if_pos h2] at h
    injection h with _ h
    exact absurd h h2
  rw [if_neg h2] at h
  injection h with h _
  subst h
  refine ⟨?_, by simpa using h2⟩
  have hl : b.length = 8 := by simpa using (not_or.1 h1).1
  have h0 : b.getD 0 0 = 97 := by simpa using (not_or.1 h1).2
  match b, hl, h0 with
  | [b0, b1, b2, b3, b4, b5, b6, b7], _, h0 =>
    have h0 : b0 = 97 := h0
    subst h0
    show [97, byteOf (b1.toNat : Int), byteOf (b2.toNat : Int), byteOf (b3.toNat : Int)] ++ fourB (numB [b4, b5, b6, b7]) = _
    rw [byteOf_of, byteOf_of, byteOf_of, four_numB]
    rfl
/-- What is unlike looks unlike. -/
theorem req_inj {p q : Rq} (hp : wrongRq p = 0) (hq : wrongRq q = 0) : reqB p = reqB q ↔ p = q := by
  refine ⟨fun h => ?_, fun h => by rw [h]⟩
  have h1 := readRq_req hp
  rw [h, readRq_req hq] at h1
  injection h1 with h1 _
  exact h1.symm
theorem ans_inj {a b : An} (ha : wrongAn a = 0) (hb : wrongAn b = 0) : ansB a = ansB b ↔ a = b := by
  refine ⟨fun h => ?_, fun h => by rw [h]⟩
  have h1 := readAn_ans ha
  rw [h, readAn_ans hb] at h1
  injection h1 with h1 _
  exact h1.symm
/-- None are both. -/
theorem not_both (b : List UInt8) : (readRq b).2 ≠ 0 ∨ (readAn b).2 ≠ 0 := by
  by_cases h : b.length = 10
  · right
    unfold readAn
    rw [if_pos (.inl (by omega))]
    decide
  · left
    unfold readRq
    rw [if_pos (.inl h)]
    decide

end Go.Mk

namespace Go.Mk
open Go Go.RowKit Go.ChangeShapes Go.WideShapes

section
variable {P : Program} {H : Type} {enc : TypeId × Value → H} {W : World} {X : Type}

/-- A request by value. -/
theorem read_req {e : TypeId} {g0 g1 g2 f0 f1 f2 f3 : Field} {v : Value} {d : DataW H} {p : List MemPlace} (he : P.underlying e = some (.struct #[g0, g1, g2])) (hc : P.cellsOf e = 6)
    (i0 : P.underlying g0.type = some (.int .i64)) (i1 : P.underlying g1.type = some (.int .i64)) (i2 : P.underlying g2.type = some (.struct #[f0, f1, f2, f3]))
    (q0 : g0.offset = 0) (q1 : g1.offset = 1) (q2 : g2.offset = 2) (d0 : P.cellsOf g0.type = 1) (d1 : P.cellsOf g1.type = 1) (d2 : P.cellsOf g2.type = 4)
    (h0 : P.underlying f0.type = some (.int .i64)) (h1 : P.underlying f1.type = some (.int .i64)) (h2 : P.underlying f2.type = some (.int .i64)) (h3 : P.underlying f3.type = some (.int .i64))
    (o0 : f0.offset = 0) (o1 : f1.offset = 1) (o2 : f2.offset = 2) (o3 : f3.offset = 3) (c0 : P.cellsOf f0.type = 1) (c1 : P.cellsOf f1.type = 1) (c2 : P.cellsOf f2.type = 1) (c3 : P.cellsOf f3.type = 1)
    {b0 : Nat} (hv : Value.okWide P W .any b0 e v) (h : DataW.Trod enc P W 0 (fun _ => true) true e v d p) : ∃ c t k a o n : Int, v = .agg #[I c, I t, I k, I a, I o, I n] := by
  obtain ⟨cs, rfl, hsz⟩ := okWide_struct he hv
  obtain ⟨fuel, hf⟩ := h
  obtain ⟨r, hx⟩ := trod_req he hc i0 i1 i2 q0 q1 q2 d0 d1 d2 h0 h1 h2 h3 o0 o1 o2 o3 c0 c1 c2 c3 hf
  refine ⟨r.client, r.token, r.call.kind, r.call.name, r.call.other, r.call.n, ?_⟩
  simp only [Value.cells] at hx
  rw [show cs = #[I r.client, I r.token, I r.call.kind, I r.call.name, I r.call.other, I r.call.n] from by cases cs; simp_all]

theorem trod_ans {e : TypeId} {g0 g1 g2 f0 f1 : Field} {fuel : Nat} {cs : List Value} {z : DataW H × List MemPlace} (he : P.underlying e = some (.struct #[g0, g1, g2])) (hc : P.cellsOf e = 4)
    (i0 : P.underlying g0.type = some (.int .i64)) (i1 : P.underlying g1.type = some (.int .i64)) (i2 : P.underlying g2.type = some (.struct #[f0, f1]))
    (q0 : g0.offset = 0) (q1 : g1.offset = 1) (q2 : g2.offset = 2) (d0 : P.cellsOf g0.type = 1) (d1 : P.cellsOf g1.type = 1) (d2 : P.cellsOf g2.type = 2)
    (h0 : P.underlying f0.type = some (.int .i64)) (h1 : P.underlying f1.type = some (.int .i64)) (o0 : f0.offset = 0) (o1 : f1.offset = 1) (c0 : P.cellsOf f0.type = 1) (c1 : P.cellsOf f1.type = 1)
    (hz : DataW.trod enc P W 0 (fun _ => true) true fuel e cs = some z) : ∃ a : An, cs = [I a.client, I a.token, I a.reply.err, I a.reply.n] := by
  obtain ⟨y0, y1, y2, m, hx, hcl, t0, t1, t2⟩ := Go.Deep.trod_struct3 he hz
  rw [hc] at hcl
  obtain ⟨u0, u1, u2, u3, rfl⟩ : ∃ u0 u1 u2 u3, cs = [u0, u1, u2, u3] := by
    match cs, hcl with
    | [u0, u1, u2, u3], _ => exact ⟨u0, u1, u2, u3, rfl⟩
  rw [q0, d0] at t0
  rw [q1, d1] at t1
  rw [q2, d2] at t2
  obtain ⟨x0, e0, _⟩ := DataW.trod_int i0 t0
  obtain ⟨x1, e1, _⟩ := DataW.trod_int i1 t1
  obtain ⟨c, e2⟩ := trod_pair i2 d2 h0 h1 o0 o1 c0 c1 t2
  simp at e0 e1 e2
  obtain ⟨e2, e3⟩ := e2
  exact ⟨⟨x0, x1, ⟨c.1, c.2⟩⟩, by rw [e0, e1, e2, e3]⟩

/-- An answer by value. -/
theorem read_ans {e : TypeId} {g0 g1 g2 f0 f1 : Field} {v : Value} {d : DataW H} {p : List MemPlace} (he : P.underlying e = some (.struct #[g0, g1, g2])) (hc : P.cellsOf e = 4)
    (i0 : P.underlying g0.type = some (.int .i64)) (i1 : P.underlying g1.type = some (.int .i64)) (i2 : P.underlying g2.type = some (.struct #[f0, f1]))
    (q0 : g0.offset = 0) (q1 : g1.offset = 1) (q2 : g2.offset = 2) (d0 : P.cellsOf g0.type = 1) (d1 : P.cellsOf g1.type = 1) (d2 : P.cellsOf g2.type = 2)
    (h0 : P.underlying f0.type = some (.int .i64)) (h1 : P.underlying f1.type = some (.int .i64)) (o0 : f0.offset = 0) (o1 : f1.offset = 1) (c0 : P.cellsOf f0.type = 1) (c1 : P.cellsOf f1.type = 1)
    {b0 : Nat} (hv : Value.okWide P W .any b0 e v) (h : DataW.Trod enc P W 0 (fun _ => true) true e v d p) : ∃ c t x n : Int, v = .agg #[I c, I t, I x, I n] := by
  obtain ⟨cs, rfl, hsz⟩ := okWide_struct he hv
  obtain ⟨fuel, hf⟩ := h
  obtain ⟨a, hx⟩ := trod_ans he hc i0 i1 i2 q0 q1 q2 d0 d1 d2 h0 h1 o0 o1 c0 c1 hf
  refine ⟨a.client, a.token, a.reply.err, a.reply.n, ?_⟩
  simp only [Value.cells] at hx
  rw [show cs = #[I a.client, I a.token, I a.reply.err, I a.reply.n] from by cases cs; simp_all]

theorem byte_of {n : Int} (h : (Lit.int .u8 n).wf = true) : ∃ b : UInt8, (b.toNat : Int) = n := by
  simp only [Lit.wf, IntKind.min, IntKind.max, IntKind.signed, IntKind.bits, Bool.and_eq_true] at h
  simp at h
  refine ⟨UInt8.ofNat n.toNat, ?_⟩
  rw [UInt8.toNat_ofNat']
  omega

theorem flatMap_U (xs : List UInt8) : xs.flatMap (fun x => [U x]) = xs.map U := by
  induction xs with
  | nil => rfl
  | cons x xs ih => rw [List.flatMap_cons, ih]; rfl

theorem read_bytes {t e : TypeId} {v : Value} {d : DataW H} {p : List MemPlace} (ht : P.underlying t = some (.slice e)) (he : P.underlying e = some (.int .u8)) (hc : P.cellsOf e = 1)
    {b0 : Nat} (hv : Value.okWide P W .any b0 t v) (h : DataW.Trod enc P W 0 (fun _ => true) true t v d p) :
    ∃ xs : List UInt8, Bytes W v xs ∧ (xs = [] ∨ ∃ elems spare, d = .slice elems spare ∧ elems.length = xs.length) := by
  obtain ⟨a0, len, cap, rfl⟩ := okWide_slice ht hv
  obtain ⟨fuel, hf⟩ := h
  obtain ⟨xs, css, hr, hl, hq, hs⟩ := read_slice (X := UInt8) (by decide) (fun cs x => cs = [U x]) ht hc (fun fuel cs z hz _ => by
    obtain ⟨n, rfl, _, hw⟩ := DataW.trod_int he hz
    obtain ⟨b, rfl⟩ := byte_of hw
    exact ⟨b, rfl⟩) rfl hf
  refine ⟨xs, ?_, hs⟩
  rw [flat_of (f := fun x => [U x]) hl (fun i c x hc hx => (hq i c x hc hx).2)] at hr
  rw [flatMap_U] at hr
  exact hr

end
end Go.Mk

namespace Go.Mk
open Go Go.RowKit

/-- What is known of an element's cells. -/
abbrev El (X : Type) := World → List Value → X → Prop
def MonoR {X : Type} (R : El X) : Prop := ∀ w w' c x, Ext w w' → R w c x → R w' c x
def OneR {X : Type} (R : El X) : Prop := ∀ w c x, R w c x → ∀ u ∈ c, u.oneCell' = true

section
variable {X : Type} {size : Nat} {R : El X}

/-- The cells css are those of the elements xs. -/
def Each (size : Nat) (R : El X) (w : World) (css : List (List Value)) (xs : List X) : Prop :=
  css.length = xs.length ∧ ∀ (i : Nat) c x, css[i]? = some c → xs[i]? = some x → c.length = size ∧ R w c x

theorem Each.ext (hR : MonoR R) {w w' : World} {css : List (List Value)} {xs : List X} (h : Each size R w css xs) (he : Ext w w') : Each size R w' css xs :=
  ⟨h.1, fun i c x hc hx => ⟨(h.2 i c x hc hx).1, hR _ _ _ _ he (h.2 i c x hc hx).2⟩⟩
theorem Each.nil (w : World) : Each size R w [] [] := ⟨rfl, fun i c x hc => by simp at hc⟩
theorem Each.snoc {w : World} {css : List (List Value)} {xs : List X} {c : List Value} {x : X} (h : Each size R w css xs) (hc : c.length = size) (hr : R w c x) : Each size R w (css ++ [c]) (xs ++ [x]) := by
  refine ⟨by simp [h.1], fun i d y hd hy => ?_⟩
  by_cases hi : i < css.length
  · rw [List.getElem?_append_left hi] at hd
    rw [List.getElem?_append_left (by rw [← h.1]; exact hi)] at hy
    exact h.2 i d y hd hy
  · have hlt := (List.getElem?_eq_some_iff.1 hd).1
    simp at hlt
    have hi2 : i = css.length := by omega
    subst hi2
    rw [List.getElem?_append_right (Nat.le_refl _)] at hd
    rw [h.1, List.getElem?_append_right (Nat.le_refl _)] at hy
    simp at hd hy
    subst hd hy
    exact ⟨hc, hr⟩
theorem Each.append {w : World} {css dss : List (List Value)} {xs ys : List X} (h : Each size R w css xs) (k : Each size R w dss ys) : Each size R w (css ++ dss) (xs ++ ys) := by
  refine ⟨by simp [h.1, k.1], fun i d y hd hy => ?_⟩
  by_cases hi : i < css.length
  · rw [List.getElem?_append_left hi] at hd
    rw [List.getElem?_append_left (by rw [← h.1]; exact hi)] at hy
    exact h.2 i d y hd hy
  · rw [List.getElem?_append_right (by omega)] at hd
    rw [List.getElem?_append_right (by rw [← h.1]; omega), ← h.1] at hy
    exact k.2 _ d y hd hy
theorem Each.take {w : World} {css : List (List Value)} {xs : List X} (h : Each size R w css xs) (k : Nat) : Each size R w (css.take k) (xs.take k) := by
  refine ⟨by simp [h.1], fun i d y hd hy => ?_⟩
  rw [List.getElem?_take] at hd hy
  split at hd
  · rw [if_pos (by assumption)] at hy; exact h.2 i d y hd hy
  · cases hd
theorem Each.drop {w : World} {css : List (List Value)} {xs : List X} (h : Each size R w css xs) (k : Nat) : Each size R w (css.drop k) (xs.drop k) := by
  refine ⟨by simp [h.1], fun i d y hd hy => ?_⟩
  rw [List.getElem?_drop] at hd hy
  exact h.2 _ d y hd hy
theorem Each.set {w : World} {css : List (List Value)} {xs : List X} (h : Each size R w css xs) (k : Nat) {c : List Value} {x : X} (hc : c.length = size) (hr : R w c x) : Each size R w (css.set k c) (xs.set k x) := by
  refine ⟨by simp [h.1], fun i d y hd hy => ?_⟩
  rw [List.getElem?_set] at hd hy
  split at hd
  · rename_i hki
    split at hd
    · rw [if_pos hki, if_pos (by rw [← h.1]; assumption)] at hy
      simp at hd hy
      subst hd hy
      exact ⟨hc, hr⟩
    · cases hd
  · rw [if_neg (by assumption)] at hy
    exact h.2 i d y hd hy
theorem Each.sizes {w : World} {css : List (List Value)} {xs : List X} (h : Each size R w css xs) : ∀ c ∈ css, c.length = size := fun c hc => by
  obtain ⟨i, hi⟩ := List.mem_iff_getElem?.1 hc
  have hlt := (List.getElem?_eq_some_iff.1 hi).1
  have hx : xs[i]? = some (xs[i]'(by rw [← h.1]; exact hlt)) := List.getElem?_eq_getElem _
  exact (h.2 i c _ hi hx).1
theorem Each.ones (hO : OneR R) {w : World} {css : List (List Value)} {xs : List X} (h : Each size R w css xs) : ∀ u ∈ css.flatten, u.oneCell' = true := fun u hu => by
  obtain ⟨c, hc, huc⟩ := List.mem_flatten.1 hu
  obtain ⟨i, hi⟩ := List.mem_iff_getElem?.1 hc
  have hlt := (List.getElem?_eq_some_iff.1 hi).1
  have hx : xs[i]? = some (xs[i]'(by rw [← h.1]; exact hlt)) := List.getElem?_eq_getElem _
  exact hO _ _ _ (h.2 i c _ hi hx).2 u huc

/-- A slice that reads as xs. -/
def RowOf (size : Nat) (R : El X) (w : World) (v : Value) (xs : List X) : Prop := ∃ css, Each size R w css xs ∧ Row w size v xs.length css.flatten

theorem RowOf.ext (hR : MonoR R) {w w' : World} {v : Value} {xs : List X} (h : RowOf size R w v xs) (he : Ext w w') : RowOf size R w' v xs := by
  obtain ⟨css, h1, h2⟩ := h
  exact ⟨css, h1.ext hR he, h2.ext he⟩
theorem RowOf.mono (hR : MonoR R) (xs : List X) : ∀ v, MonoP (fun w => RowOf size R w v xs) := fun _ _ _ he h => RowOf.ext hR h he
theorem RowOf.nil (w : World) : RowOf size R w (.slice none 0 0) [] := ⟨[], Each.nil w, Row.of_owns (World.ownsRow_nil w 0 0 size)⟩

theorem flatten_get (hs : 0 < size) {css : List (List Value)} (h : ∀ c ∈ css, c.length = size) {k j : Nat} {c : List Value} {u : Value} (hc : css[k]? = some c) (hj : c[j]? = some u) : css.flatten[k * size + j]? = some u := by
  have hjl : j < size := by rw [← h c (List.mem_of_getElem? hc)]; exact (List.getElem?_eq_some_iff.1 hj).1
  rw [flatten_at size hs css h]
  rw [show (k * size + j) / size = k by rw [Nat.mul_comm, Nat.mul_add_div hs, Nat.div_eq_of_lt hjl, Nat.add_zero], show (k * size + j) % size = j by rw [Nat.mul_comm, Nat.mul_add_mod, Nat.mod_eq_of_lt hjl], hc]
  exact hj

/-- The slice's own form, as a walk wants it. -/
theorem RowOf.form (hs : 0 < size) {w : World} {v : Value} {xs : List X} (h : RowOf size R w v xs) : ∃ ao cap, v = .slice ao xs.length cap ∧ xs.length ≤ cap ∧ cap ≤ maxLen ∧ (ao = none → cap = 0) ∧
    ∀ k x, xs[k]? = some x → ∃ b off c, ao = some ⟨b, off, none⟩ ∧ c.length = size ∧ R w c x ∧ ∀ j u, c[j]? = some u → w.cell? ⟨b, off + (k * size + j), none⟩ = some u := by
  obtain ⟨css, he, hl, ao, cap, h2, h3, h4, h0, h5⟩ := h
  refine ⟨ao, cap, h2, h3, h4, h0, fun k x hx => ?_⟩
  have hk : k < css.length := by rw [he.1]; exact (List.getElem?_eq_some_iff.1 hx).1
  have hc : css[k]? = some css[k] := List.getElem?_eq_getElem hk
  obtain ⟨c1, c2⟩ := he.2 k _ x hc hx
  have hall := he.sizes
  have h0' : ∃ u, css[k][0]? = some u := ⟨css[k][0]'(by rw [c1]; exact hs), List.getElem?_eq_getElem _⟩
  obtain ⟨u0, hu0⟩ := h0'
  obtain ⟨b, off, e, _⟩ := h5 _ _ (flatten_get hs hall hc hu0)
  refine ⟨b, off, css[k], e, c1, c2, fun j u hj => ?_⟩
  obtain ⟨b', off', e', hc'⟩ := h5 _ _ (flatten_get hs hall hc hj)
  rw [e] at e'
  simp only [Option.some.injEq, Addr.mk.injEq, and_true] at e'
  obtain ⟨rfl, rfl⟩ := e'
  exact hc'

theorem flatten_take (hs : 0 < size) : ∀ {css : List (List Value)} (_ : ∀ c ∈ css, c.length = size) (k : Nat), (css.take k).flatten = css.flatten.take (k * size)
  | [], _, k => by simp
  | c :: css, h, 0 => by simp
  | c :: css, h, k + 1 => by
    have hc : c.length = size := h c (by simp)
    rw [List.take_succ_cons, List.flatten_cons, List.flatten_cons, flatten_take hs (fun c hc => h c (by simp [hc])) k, show (k + 1) * size = c.length + k * size by rw [hc, Nat.add_mul]; omega, List.take_append, List.take_of_length_le (l := c) (by omega), show c.length + k * size - c.length = k * size by omega]
theorem flatten_drop (hs : 0 < size) : ∀ {css : List (List Value)} (_ : ∀ c ∈ css, c.length = size) (k : Nat), (css.drop k).flatten = css.flatten.drop (k * size)
  | [], _, k => by simp
  | c :: css, h, 0 => by simp
  | c :: css, h, k + 1 => by
    have hc : c.length = size := h c (by simp)
    rw [List.drop_succ_cons, List.flatten_cons, flatten_drop hs (fun c hc => h c (by simp [hc])) k, show (k + 1) * size = c.length + k * size by rw [hc, Nat.add_mul]; omega, List.drop_append, List.drop_of_length_le (l := c) (by omega), show c.length + k * size - c.length = k * size by omega, List.nil_append]

/-- s[:k]. -/
theorem RowOf.take (hs : 0 < size) {w : World} {ao : Option Addr} {n cap : Nat} {xs : List X} (h : RowOf size R w (.slice ao n cap) xs) (k : Nat) (hk : k ≤ xs.length) : RowOf size R w (.slice ao k cap) (xs.take k) := by
  obtain ⟨css, he, hr⟩ := h
  have hn : n = xs.length := by
    obtain ⟨_, ao', cap', e, _⟩ := hr
    simp at e
    exact e.2.1
  subst hn
  refine ⟨css.take k, he.take k, ?_⟩
  rw [flatten_take hs he.sizes, List.length_take, Nat.min_eq_left hk]
  exact hr.take k hk

/-- s[k:]. -/
theorem RowOf.drop (hs : 0 < size) {w : World} {b off n cap : Nat} {xs : List X} (h : RowOf size R w (.slice (some ⟨b, off, none⟩) n cap) xs) (k : Nat) (hk : k ≤ xs.length) : RowOf size R w (.slice (some ⟨b, off + k * size, none⟩) (xs.length - k) (cap - k)) (xs.drop k) := by
  obtain ⟨css, he, hl, ao', cap', h2, h3, h4, h0, h5⟩ := h
  simp only [Value.slice.injEq] at h2
  obtain ⟨rfl, rfl, rfl⟩ := h2
  refine ⟨css.drop k, he.drop k, ?_⟩
  rw [flatten_drop hs he.sizes, List.length_drop]
  refine ⟨by rw [List.length_drop, hl, Nat.sub_mul], _, _, rfl, by omega, by omega, (fun h => by cases h), fun j u hj => ?_⟩
  rw [List.getElem?_drop] at hj
  obtain ⟨b', off', e', hc'⟩ := h5 _ u hj
  simp only [Option.some.injEq, Addr.mk.injEq, and_true] at e'
  obtain ⟨rfl, rfl⟩ := e'
  exact ⟨b, off + k * size, rfl, by rw [Nat.add_assoc]; exact hc'⟩

/-- .. that lies in memory of its own. -/
def OwnOf (base e size : Nat) (R : El X) (w : World) (v : Value) (xs : List X) : Prop := ∃ css, Each size R w css xs ∧ w.ownsRow base e size v xs.length css.flatten

theorem OwnOf.row {base e : Nat} {w : World} {v : Value} {xs : List X} (h : OwnOf base e size R w v xs) : RowOf size R w v xs := by
  obtain ⟨css, h1, h2⟩ := h
  exact ⟨css, h1, Row.of_owns h2⟩
theorem OwnOf.nil (base e : Nat) (w : World) : OwnOf base e size R w (.slice none 0 0) [] := ⟨[], Each.nil w, World.ownsRow_nil w base e size⟩
theorem OwnOf.ext (hR : MonoR R) {base e : Nat} {w w' : World} {v : Value} {xs : List X} (h : OwnOf base e size R w v xs) (he : Ext w w') : OwnOf base e size R w' v xs := by
  obtain ⟨css, h1, h2⟩ := h
  exact ⟨css, h1.ext hR he, owns_ext h2 he⟩
theorem OwnOf.mono (hR : MonoR R) (base e : Nat) (xs : List X) : ∀ v, MonoP (fun w => OwnOf base e size R w v xs) := fun _ _ _ he h => OwnOf.ext hR h he

end
end Go.Mk

/- Chapter 1, plain mathematics: cells as lists of numbers. -/
namespace Go.Mk

/-- As many entries as cell 0 tells, and as there is room for. -/
def entriesOf (xs : List Int) : Int := if xs.length = 0 then 0 else min (xs.getD 0 0) (((xs.length : Int) - 1) / 2)

/-- The first of n entries from i on that has that name. -/
def findIn (xs : List Int) (name : Int) : Nat → Nat → Int
  | 0, _ => -1
  | n + 1, i => if xs.getD (1 + 2 * i) 0 = name then (i : Int) else findIn xs name n (i + 1)

theorem findIn_hit {xs : List Int} {name n : Int} {k : Nat} (hlt : (k : Int) < n) (h : (xs.getD (1 + 2 * k) 0 == name) = true) : findIn xs name (n.toNat - k) k = (k : Int) := by
  obtain ⟨m, hm⟩ : ∃ m, n.toNat - k = m + 1 := ⟨n.toNat - k - 1, by omega⟩
  rw [hm, findIn, if_pos (by simpa using h)]
theorem findIn_miss {xs : List Int} {name n : Int} {k : Nat} (hlt : (k : Int) < n) (h : (xs.getD (1 + 2 * k) 0 == name) = false) : findIn xs name (n.toNat - k) k = findIn xs name (n.toNat - (k + 1)) (k + 1) := by
  obtain ⟨m, hm⟩ : ∃ m, n.toNat - k = m + 1 := ⟨n.toNat - k - 1, by omega⟩
  rw [hm, findIn, if_neg (by simpa using h), show n.toNat - (k + 1) = m by omega]
theorem findIn_end {xs : List Int} {name n : Int} {k : Nat} (hlt : ¬ (k : Int) < n) : findIn xs name (n.toNat - k) k = -1 := by
  rw [show n.toNat - k = 0 by omega, findIn]
theorem findIn_ge (xs : List Int) (name : Int) : ∀ n i, -1 ≤ findIn xs name n i
  | 0, _ => by simp [findIn]
  | n + 1, i => by
    rw [findIn]
    split
    · omega
    · exact findIn_ge xs name n (i + 1)
theorem findIn_lt (xs : List Int) (name : Int) : ∀ n i, findIn xs name n i < (i : Int) + n
  | 0, _ => by simp [findIn]; omega
  | n + 1, i => by
    rw [findIn]
    split
    · omega
    · have := findIn_lt xs name n (i + 1); omega

/-- What is wrong with entry i. -/
def wrongAt (xs : List Int) (i : Nat) : Int :=
  if ¬ (1 ≤ xs.getD (1 + 2 * i) 0 ∧ xs.getD (1 + 2 * i) 0 ≤ 255) ∨ ¬ (-1073741824 ≤ xs.getD (2 + 2 * i) 0 ∧ xs.getD (2 + 2 * i) 0 ≤ 1073741824) then 3
  else if 0 ≤ findIn xs (xs.getD (1 + 2 * i) 0) i 0 then 7 else 0

def wrongIn (xs : List Int) : Nat → Nat → Int
  | 0, _ => 0
  | n + 1, i => if wrongAt xs i = 0 then wrongIn xs n (i + 1) else wrongAt xs i

theorem wrongIn_bad {xs : List Int} {n : Int} {k : Nat} (hlt : (k : Int) < n) (h : (wrongAt xs k != 0) = true) : wrongIn xs (n.toNat - k) k = wrongAt xs k := by
  obtain ⟨m, hm⟩ : ∃ m, n.toNat - k = m + 1 := ⟨n.toNat - k - 1, by omega⟩
  rw [hm, wrongIn, if_neg (by simpa using h)]
theorem wrongIn_good {xs : List Int} {n : Int} {k : Nat} (hlt : (k : Int) < n) (h : (wrongAt xs k != 0) = false) : wrongIn xs (n.toNat - k) k = wrongIn xs (n.toNat - (k + 1)) (k + 1) := by
  obtain ⟨m, hm⟩ : ∃ m, n.toNat - k = m + 1 := ⟨n.toNat - k - 1, by omega⟩
  rw [hm, wrongIn, if_pos (by simpa using h), show n.toNat - (k + 1) = m by omega]
theorem wrongIn_end {xs : List Int} {n : Int} {k : Nat} (hlt : ¬ (k : Int) < n) : wrongIn xs (n.toNat - k) k = 0 := by
  rw [show n.toNat - k = 0 by omega, wrongIn]

/-- What is wrong with cells. -/
def wrongOf (xs : List Int) : Int :=
  if xs.length ≠ 11 then 5 else if ¬ (0 ≤ xs.getD 0 0 ∧ xs.getD 0 0 ≤ 5) then 3 else wrongIn xs (xs.getD 0 0).toNat 0

/-- One write: a cell that there is not is none. -/
def set1 (xs : List Int) (p : Int × Int) : List Int := if 0 ≤ p.1 ∧ p.1 < (xs.length : Int) then xs.set p.1.toNat p.2 else xs
/-- Write by write. -/
def setAll (xs : List Int) (l : List (Int × Int)) : List Int := l.foldl set1 xs
/-- What takes the writes back: the last one first. -/
def undoAll (xs : List Int) : List (Int × Int) → List (Int × Int)
  | [] => []
  | p :: l => undoAll (set1 xs p) l ++ (if 0 ≤ p.1 ∧ p.1 < (xs.length : Int) then [(p.1, xs.getD p.1.toNat 0)] else [])

theorem length_set1 (xs : List Int) (p : Int × Int) : (set1 xs p).length = xs.length := by unfold set1; split <;> simp
theorem length_setAll (xs : List Int) (l : List (Int × Int)) : (setAll xs l).length = xs.length := by
  induction l generalizing xs with
  | nil => rfl
  | cons p l ih => show (setAll (set1 xs p) l).length = _; rw [ih, length_set1]

/-- Taken back, it is as it was. -/
theorem set_undo (xs : List Int) (l : List (Int × Int)) : setAll (setAll xs l) (undoAll xs l) = xs := by
  induction l generalizing xs with
  | nil => rfl
  | cons p l ih =>
    show setAll (setAll (set1 xs p) l) (undoAll (set1 xs p) l ++ _) = xs
    unfold setAll at *
    rw [List.foldl_append, ih]
    by_cases h : 0 ≤ p.1 ∧ p.1 < (xs.length : Int)
    · rw [if_pos h]
      simp only [List.foldl_cons, List.foldl_nil]
      unfold set1
      simp only [h, and_self, if_true, List.length_set]
      rw [List.set_set]
      have hlt : p.1.toNat < xs.length := by omega
      rw [List.getD_eq_getElem?_getD, List.getElem?_eq_getElem hlt]
      exact List.set_getElem_self hlt
    · rw [if_neg h]
      simp only [List.foldl_nil]
      unfold set1
      rw [if_neg h]

/-- Who is apart may go first. -/
theorem set_apart (xs : List Int) (a b : Int × Int) (h : a.1 ≠ b.1) : setAll xs [a, b] = setAll xs [b, a] := by
  simp only [setAll, List.foldl_cons, List.foldl_nil]
  by_cases ha : 0 ≤ a.1 ∧ a.1 < (xs.length : Int) <;> by_cases hb : 0 ≤ b.1 ∧ b.1 < (xs.length : Int)
  · simp only [set1, ha, hb, and_self, if_true, List.length_set]
    rw [List.set_comm]
    omega
  all_goals simp [set1, ha, hb]

theorem setAll_snoc (xs : List Int) (l : List (Int × Int)) (p : Int × Int) : setAll xs (l ++ [p]) = set1 (setAll xs l) p := by simp [setAll]

theorem undoAll_snoc (xs : List Int) (l : List (Int × Int)) (p : Int × Int) :
    undoAll xs (l ++ [p]) = (if 0 ≤ p.1 ∧ p.1 < (xs.length : Int) then [(p.1, (setAll xs l).getD p.1.toNat 0)] else []) ++ undoAll xs l := by
  induction l generalizing xs with
  | nil => simp [undoAll, setAll]
  | cons q l ih =>
    show undoAll (set1 xs q) (l ++ [p]) ++ _ = _ ++ (undoAll (set1 xs q) l ++ _)
    rw [ih, length_set1, ← List.append_assoc]
    rfl

theorem undoAll_len (xs : List Int) (l : List (Int × Int)) : (undoAll xs l).length ≤ l.length := by
  induction l generalizing xs with
  | nil => simp [undoAll]
  | cons p l ih =>
    rw [undoAll, List.length_append]
    have := ih (set1 xs p)
    simp only [List.length_cons]
    split <;> simp <;> omega

/-- A list turned round, as far as k from both ends. -/
def rv (us : List (Int × Int)) (k : Nat) : List (Int × Int) := (List.range us.length).map fun i => if i < k ∨ us.length ≤ i + k then us.getD (us.length - 1 - i) (0, 0) else us.getD i (0, 0)
theorem length_rv (us : List (Int × Int)) (k : Nat) : (rv us k).length = us.length := by simp [rv]
theorem getElem?_rv (us : List (Int × Int)) (k i : Nat) : (rv us k)[i]? = if i < us.length then some (if i < k ∨ us.length ≤ i + k then us.getD (us.length - 1 - i) (0, 0) else us.getD i (0, 0)) else none := by
  unfold rv
  rw [List.getElem?_map]
  by_cases h : i < us.length
  · simp [h]
  · simp [h]
theorem rv_zero (us : List (Int × Int)) : rv us 0 = us := by
  apply List.ext_getElem?
  intro i
  rw [getElem?_rv]
  by_cases h : i < us.length
  · rw [if_pos h, if_neg (by omega)]
    simp [h]
  · rw [if_neg h]
    simp [h]
theorem rv_end (us : List (Int × Int)) (k : Nat) (h : us.length ≤ 2 * k + 1) : rv us k = us.reverse := by
  apply List.ext_getElem?
  intro i
  rw [getElem?_rv]
  by_cases hi : i < us.length
  · rw [if_pos hi, List.getElem?_reverse hi]
    have h1 : us.length - 1 - i < us.length := by omega
    by_cases hc : i < k ∨ us.length ≤ i + k
    · rw [if_pos hc]
      simp [h1]
    · rw [if_neg hc, show us.length - 1 - i = i by omega]
      simp [hi]
  · rw [if_neg hi]
    rw [List.getElem?_eq_none (by simp; omega)]
theorem rv_step (us : List (Int × Int)) (k : Nat) (h : 2 * k + 1 < us.length) : rv us (k + 1) = ((rv us k).set k (us.getD (us.length - 1 - k) (0, 0))).set (us.length - 1 - k) (us.getD k (0, 0)) := by
  apply List.ext_getElem?
  intro i
  rw [getElem?_rv, List.getElem?_set, List.length_set, length_rv, List.getElem?_set, length_rv, getElem?_rv]
  by_cases hi : i < us.length
  · rw [if_pos hi]
    by_cases h1 : us.length - 1 - k = i
    · rw [if_pos h1, if_pos (by omega), if_pos (by omega), show us.length - 1 - i = k by omega]
    · rw [if_neg h1]
      by_cases h2 : k = i
      · subst h2
        rw [if_pos rfl, if_pos hi, if_pos (by omega)]
      · rw [if_neg h2, if_pos hi]
        by_cases h3 : i < k ∨ us.length ≤ i + k
        · rw [if_pos h3, if_pos (by omega)]
        · rw [if_neg h3, if_neg (by omega)]
  · rw [if_neg hi, if_neg (by omega), if_neg (by omega), if_neg hi]
theorem rv_at (us : List (Int × Int)) (k : Nat) (h : 2 * k + 1 < us.length) : (rv us k).getD k (0, 0) = us.getD k (0, 0) ∧ (rv us k).getD (us.length - 1 - k) (0, 0) = us.getD (us.length - 1 - k) (0, 0) := by
  constructor
  · rw [List.getD_eq_getElem?_getD, getElem?_rv, if_pos (by omega), if_neg (by omega)]; rfl
  · rw [List.getD_eq_getElem?_getD, getElem?_rv, if_pos (by omega), if_neg (by omega)]; rfl

/-- What cell i has behind the writes, write by write. -/
def lastAt (l : List (Int × Int)) (i : Int) (n : Int) : Int := l.foldl (fun n p => if p.1 = i then p.2 else n) n
theorem lastAt_snoc (l : List (Int × Int)) (p : Int × Int) (i n : Int) : lastAt (l ++ [p]) i n = if p.1 = i then p.2 else lastAt l i n := by simp [lastAt]
theorem set1_at (xs : List Int) (p : Int × Int) (i : Nat) (hi : i < xs.length) : (set1 xs p).getD i 0 = if p.1 = (i : Int) then p.2 else xs.getD i 0 := by
  unfold set1
  by_cases h : 0 ≤ p.1 ∧ p.1 < (xs.length : Int)
  · rw [if_pos h]
    by_cases he : p.1 = (i : Int)
    · rw [if_pos he, show p.1.toNat = i by omega]
      simp [hi]
    · rw [if_neg he, List.getD_eq_getElem?_getD, List.getElem?_set_ne (by omega), List.getD_eq_getElem?_getD]
  · rw [if_neg h, if_neg (by omega)]
theorem setAll_at (xs : List Int) (l : List (Int × Int)) (i : Nat) (hi : i < xs.length) : (setAll xs l).getD i 0 = lastAt l i (xs.getD i 0) := by
  induction l generalizing xs with
  | nil => rfl
  | cons p l ih =>
    show (setAll (set1 xs p) l).getD i 0 = lastAt l i (if p.1 = (i : Int) then p.2 else xs.getD i 0)
    rw [ih _ (by rw [length_set1]; exact hi), set1_at xs p i hi]
theorem setAll_take (xs : List Int) (l : List (Int × Int)) (k : Nat) (hk : k < xs.length) : (setAll xs l).take (k + 1) = (setAll xs l).take k ++ [lastAt l k (xs.getD k 0)] := by
  rw [← setAll_at xs l k hk, List.take_add_one]
  have : k < (setAll xs l).length := by rw [length_setAll]; exact hk
  simp [this]

end Go.Mk

namespace Go.Mk
open Go Go.RowKit

theorem ofCells_at (xs : List Int) (n i : Nat) (h : i < n) : (ofCells xs n).getD i (0, 0) = (xs.getD (1 + 2 * i) 0, xs.getD (1 + 2 * i + 1) 0) := by
  simp [ofCells, List.getD_eq_getElem?_getD, h]

/-! ### Right cells are cells whose names are right -/

theorem find_none (xs : List Int) (name : Int) : ∀ n i, findIn xs name n i < 0 ↔ ∀ j, i ≤ j → j < i + n → xs.getD (1 + 2 * j) 0 ≠ name
  | 0, i => by
    constructor
    · intro _ j h1 h2; omega
    · intro _; simp [findIn]
  | n + 1, i => by
    rw [findIn]
    by_cases h : xs.getD (1 + 2 * i) 0 = name
    · rw [if_pos h]
      constructor
      · intro h2; omega
      · intro h2; exact absurd h (h2 i (Nat.le_refl _) (by omega))
    · rw [if_neg h, find_none xs name n (i + 1)]
      constructor
      · intro h2 j h3 h4
        by_cases e : j = i
        · rw [e]; exact h
        · exact h2 j (by omega) (by omega)
      · intro h2 j h3 h4
        exact h2 j (by omega) (by omega)
theorem wrongIn_zero (xs : List Int) : ∀ n i, wrongIn xs n i = 0 ↔ ∀ j, i ≤ j → j < i + n → wrongAt xs j = 0
  | 0, i => by
    constructor
    · intro _ j h1 h2; omega
    · intro _; rfl
  | n + 1, i => by
    rw [wrongIn]
    by_cases h : wrongAt xs i = 0
    · rw [if_pos h, wrongIn_zero xs n (i + 1)]
      constructor
      · intro h2 j h3 h4
        by_cases e : j = i
        · rw [e]; exact h
        · exact h2 j (by omega) (by omega)
      · intro h2 j h3 h4
        exact h2 j (by omega) (by omega)
    · rw [if_neg h]
      constructor
      · intro h2; exact absurd h2 h
      · intro h2; exact absurd (h2 i (Nat.le_refl _) (by omega)) h
theorem wrongAt_zero (xs : List Int) (i : Nat) : wrongAt xs i = 0 ↔ (1 ≤ xs.getD (1 + 2 * i) 0 ∧ xs.getD (1 + 2 * i) 0 ≤ 255 ∧ -1073741824 ≤ xs.getD (1 + 2 * i + 1) 0 ∧ xs.getD (1 + 2 * i + 1) 0 ≤ 1073741824) ∧ ∀ j, j < i → xs.getD (1 + 2 * j) 0 ≠ xs.getD (1 + 2 * i) 0 := by
  unfold wrongAt
  rw [show 2 + 2 * i = 1 + 2 * i + 1 by omega]
  have hf := find_none xs (xs.getD (1 + 2 * i) 0) i 0
  by_cases h1 : ¬ (1 ≤ xs.getD (1 + 2 * i) 0 ∧ xs.getD (1 + 2 * i) 0 ≤ 255) ∨ ¬ (-1073741824 ≤ xs.getD (1 + 2 * i + 1) 0 ∧ xs.getD (1 + 2 * i + 1) 0 ≤ 1073741824)
  · rw [if_pos h1]
    constructor
    · intro h; cases h
    · intro h; omega
  · rw [if_neg h1]
    by_cases h2 : 0 ≤ findIn xs (xs.getD (1 + 2 * i) 0) i 0
    · rw [if_pos h2]
      constructor
      · intro h; cases h
      · intro h
        have := hf.2 (fun j _ h4 => h.2 j (by omega))
        omega
    · rw [if_neg h2]
      constructor
      · intro _
        exact ⟨by omega, fun j hj => hf.1 (by omega) j (Nat.zero_le _) (by omega)⟩
      · intro _; rfl
theorem right_iff (xs : List Int) : wrongOf xs = 0 ↔ xs.length = 11 ∧ 0 ≤ xs.getD 0 0 ∧ xs.getD 0 0 ≤ 5 ∧ Okn (ofCells xs (xs.getD 0 0).toNat) := by
  unfold wrongOf
  by_cases h1 : xs.length ≠ 11
  · rw [if_pos h1]
    constructor
    · intro h; cases h
    · intro h; exact absurd h.1 h1
  rw [if_neg h1]
  by_cases h2 : ¬ (0 ≤ xs.getD 0 0 ∧ xs.getD 0 0 ≤ 5)
  · rw [if_pos h2]
    constructor
    · intro h; cases h
    · intro h; exact absurd ⟨h.2.1, h.2.2.1⟩ h2
  rw [if_neg h2, wrongIn_zero]
  have hx : 0 ≤ xs.getD 0 0 ∧ xs.getD 0 0 ≤ 5 := by simpa using h2
  constructor
  · intro h
    refine ⟨by simpa using h1, hx.1, hx.2, okn_of (by rw [length_ofCells]; omega) (fun i hi => ?_) (fun i j hij hj => ?_)⟩
    · rw [length_ofCells] at hi
      rw [ofCells_at _ _ _ hi]
      exact ((wrongAt_zero xs i).1 (h i (Nat.zero_le _) (by omega))).1
    · rw [length_ofCells] at hj
      rw [ofCells_at _ _ _ hj, ofCells_at _ _ _ (by omega)]
      exact ((wrongAt_zero xs j).1 (h j (Nat.zero_le _) (by omega))).2 i hij
  · rintro ⟨_, _, _, hok⟩ j _ hj
    have hjl : j < (xs.getD 0 0).toNat := by omega
    rw [wrongAt_zero]
    have ha := hok.at (i := j) (by rw [length_ofCells]; exact hjl)
    rw [ofCells_at _ _ _ hjl] at ha
    refine ⟨ha, fun i hi e => ?_⟩
    have := hok.uni (i := i) (j := j) (by rw [length_ofCells]; omega) (by rw [length_ofCells]; exact hjl) (by rw [ofCells_at _ _ _ hjl, ofCells_at _ _ _ (by omega)]; exact e)
    omega
theorem find_at1 (xs : List Int) (name : Int) (n : Nat) : findIn xs name n 0 = if at1 (ofCells xs n) name < n then (at1 (ofCells xs n) name : Int) else -1 := by
  have key : ∀ m i, i + m = n → (∀ j, j < i → xs.getD (1 + 2 * j) 0 ≠ name) → findIn xs name m i = if at1 (ofCells xs n) name < n then (at1 (ofCells xs n) name : Int) else -1 := by
    intro m
    induction m with
    | zero =>
      intro i hi hb
      have : at1 (ofCells xs n) name = (ofCells xs n).length := at1_none (fun j hj => by rw [length_ofCells] at hj; rw [ofCells_at _ _ _ hj]; exact hb j (by omega))
      rw [length_ofCells] at this
      rw [findIn, if_neg (by omega)]
    | succ m ih =>
      intro i hi hb
      rw [findIn]
      by_cases h : xs.getD (1 + 2 * i) 0 = name
      · have : at1 (ofCells xs n) name = i := at1_of (by rw [length_ofCells]; omega) (by rw [ofCells_at _ _ _ (by omega)]; exact h) (fun j hj => by rw [ofCells_at _ _ _ (by omega)]; exact hb j hj)
        rw [if_pos h, this, if_pos (by omega)]
      · rw [if_neg h]
        refine ih (i + 1) (by omega) (fun j hj => ?_)
        by_cases e : j = i
        · rw [e]; exact h
        · exact hb j (by omega)
  exact key n 0 (by omega) (fun j hj => by omega)

/-! ### The writes of a call -/

/-- Cells whose names and numbers may be; names need not be unlike. -/
def Weak (xs : List Int) : Prop := xs.length = 11 ∧ 0 ≤ xs.getD 0 0 ∧ xs.getD 0 0 ≤ 5 ∧ Okw (ofCells xs (xs.getD 0 0).toNat)
theorem Weak.c {xs : List Int} (h : Weak xs) : xs.length = 11 ∧ 0 ≤ xs.getD 0 0 ∧ xs.getD 0 0 ≤ 5 := ⟨h.1, h.2.1, h.2.2.1⟩
theorem weak_of {xs : List Int} (h : wrongOf xs = 0) : Weak xs := by
  obtain ⟨h1, h2, h3, h4⟩ := (right_iff xs).1 h
  exact ⟨h1, h2, h3, h4.w⟩

def planX (l : List (Int × Int)) (c : Cl) : List (Int × Int) :=
  if c.kind = 1 then
    if at1 l c.name < l.length then [(2 + 2 * (at1 l c.name : Int), c.n)] else [(1 + 2 * (l.length : Int), c.name), (2 + 2 * (l.length : Int), c.n), (0, (l.length : Int) + 1)]
  else if c.kind = 3 then
    if at1 l c.name + 1 < l.length then [(1 + 2 * (at1 l c.name : Int), (l.getD (l.length - 1) (0, 0)).1), (2 + 2 * (at1 l c.name : Int), (l.getD (l.length - 1) (0, 0)).2), (0, (l.length : Int) - 1)] else [(0, (l.length : Int) - 1)]
  else if c.kind = 4 then [(2 + 2 * (at1 l c.name : Int), num l (at1 l c.name) + c.n)]
  else if c.kind = 6 then [(2 + 2 * (at1 l c.name : Int), num l (at1 l c.other)), (2 + 2 * (at1 l c.other : Int), num l (at1 l c.name))]
  else []

def planCl (l : List (Int × Int)) (c : Cl) : List (Int × Int) := if (doCl l c).2.err ≠ 0 then [] else planX l c

theorem plan_len (l : List (Int × Int)) (c : Cl) : (planCl l c).length ≤ 3 := by
  unfold planCl planX
  repeat' split
  all_goals simp

/-- Cells of which number and names are known. -/
theorem cells_are {ds : List Int} {l : List (Int × Int)} (h0 : ds.getD 0 0 = (l.length : Int)) (hp : ∀ i, i < l.length → ds.getD (1 + 2 * i) 0 = (l.getD i (0, 0)).1 ∧ ds.getD (1 + 2 * i + 1) 0 = (l.getD i (0, 0)).2) : ofCells ds (ds.getD 0 0).toNat = l := by
  rw [h0]
  refine ext_getD (by rw [length_ofCells]; omega) fun i hi => ?_
  rw [length_ofCells] at hi
  rw [ofCells_at _ _ _ hi]
  have := hp i (by omega)
  exact Prod.ext this.1 this.2

/-- What cells are behind all the writes. -/
theorem plan_of {xs : List Int} {c : Cl} {l : List (Int × Int)} (hl : xs.length = 11) (x0 : 0 ≤ xs.getD 0 0) (hll : xs.getD 0 0 = (l.length : Int)) (hat : ∀ i, i < l.length → xs.getD (1 + 2 * i) 0 = (l.getD i (0, 0)).1 ∧ xs.getD (1 + 2 * i + 1) 0 = (l.getD i (0, 0)).2)
    (hok : Okn l) (hc : wrongCl c = 0) :
    (setAll xs (planCl l c)).getD 0 0 = ((doCl l c).1.length : Int) ∧ ∀ i, i < (doCl l c).1.length → (setAll xs (planCl l c)).getD (1 + 2 * i) 0 = ((doCl l c).1.getD i (0, 0)).1 ∧ (setAll xs (planCl l c)).getD (1 + 2 * i + 1) 0 = ((doCl l c).1.getD i (0, 0)).2 := by
  have h5 := hok.len
  have hset : ∀ W j, j < 11 → (setAll xs W).getD j 0 = lastAt W j (xs.getD j 0) := fun W j hj => setAll_at xs W j (by omega)
  have hkk := okn_do hok hc
  by_cases he : (doCl l c).2.err ≠ 0
  · have e1 : planCl l c = [] := by unfold planCl; rw [if_pos he]
    have e2 : (doCl l c).1 = l := by
      rcases hkk.2.1 with h | h
      · exact absurd h he
      · exact h.2
    rw [e1, e2]
    exact ⟨hll, hat⟩
  have he' : (doCl l c).2.err = 0 := by simpa using he
  rw [show planCl l c = planX l c from if_neg he]
  clear hkk
  unfold planX
  obtain ⟨k, a, o, n⟩ := c
  simp only
  have hk : k = 1 ∨ k = 2 ∨ k = 3 ∨ k = 4 ∨ k = 5 ∨ k = 6 := by
    unfold wrongCl at hc
    split at hc
    · cases hc
    · rename_i h; simp at h; omega
  rcases hk with rfl | rfl | rfl | rfl | rfl | rfl
  · rw [if_pos rfl]
    have hd : doCl l ⟨1, a, o, n⟩ = if at1 l a < l.length then (put1 l (at1 l a) n, ⟨0, num l (at1 l a)⟩) else if 5 ≤ l.length then (l, ⟨9, 0⟩) else (l ++ [(a, n)], ⟨0, 0⟩) := rfl
    by_cases ha : at1 l a < l.length
    · rw [if_pos ha]
      rw [hd, if_pos ha]
      simp only [length_put1]
      refine ⟨?_, fun i hi => ?_⟩
      · rw [hset _ _ (by omega)]
        simp only [lastAt, List.foldl]
        rw [if_neg (by omega)]; exact hll
      · rw [hset _ _ (by omega), hset _ _ (by omega), fst_put1 _ _ _ _ ha, snd_put1 _ _ _ _ ha]
        simp only [lastAt, List.foldl]
        rw [if_neg (by omega)]
        refine ⟨(hat i hi).1, ?_⟩
        by_cases e : at1 l a = i
        · rw [if_pos (by omega), if_pos e]
        · rw [if_neg (by omega), if_neg e]; exact (hat i hi).2
    · rw [hd, if_neg ha] at he' ⊢
      rw [if_neg ha]
      by_cases hf : 5 ≤ l.length
      · rw [if_pos hf] at he'; simp at he'
      rw [if_neg hf]
      simp only [List.length_append, List.length_cons, List.length_nil]
      refine ⟨?_, fun i hi => ?_⟩
      · rw [hset _ _ (by omega)]
        simp only [lastAt, List.foldl]
        rw [if_pos (by omega)]; omega
      · rw [hset _ _ (by omega), hset _ _ (by omega)]
        simp only [lastAt, List.foldl]
        by_cases e : i < l.length
        · rw [if_neg (by omega), if_neg (by omega), if_neg (by omega), if_neg (by omega), if_neg (by omega), if_neg (by omega)]
          rw [List.getD_eq_getElem?_getD (l := l ++ [(a, n)]), List.getElem?_append_left e, ← List.getD_eq_getElem?_getD]
          exact hat i e
        · have e2 : i = l.length := by omega
          subst e2
          rw [if_neg (by omega), if_neg (by omega), if_pos (by omega), if_neg (by omega), if_pos (by omega)]
          simp
  · rw [if_neg (by decide), if_neg (by decide), if_neg (by decide), if_neg (by decide)]
    have hd : (doCl l ⟨2, a, o, n⟩).1 = l := by
      show (if ¬ at1 l a < l.length then (l, (⟨6, 0⟩ : Rp)) else (l, ⟨0, num l (at1 l a)⟩)).1 = l
      split <;> rfl
    rw [hd]
    exact ⟨hll, hat⟩
  · rw [if_neg (by decide), if_pos rfl]
    have hd : doCl l ⟨3, a, o, n⟩ = if ¬ at1 l a < l.length then (l, ⟨6, 0⟩) else ((l.set (at1 l a) (l.getD (l.length - 1) (0, 0))).take (l.length - 1), ⟨0, num l (at1 l a)⟩) := rfl
    by_cases ha : at1 l a < l.length
    case neg => rw [hd, if_pos ha] at he'; simp at he'
    rw [if_neg (by simpa using ha)] at hd
    rw [hd]
    simp only [length_dropped]
    have hpt : ∀ i, i < l.length - 1 → ((l.set (at1 l a) (l.getD (l.length - 1) (0, 0))).take (l.length - 1)).getD i (0, 0) = if at1 l a = i then l.getD (l.length - 1) (0, 0) else l.getD i (0, 0) := fun i hi => getD_dropped l _ i ha hi
    by_cases hb : at1 l a + 1 < l.length
    · rw [if_pos hb]
      refine ⟨?_, fun i hi => ?_⟩
      · rw [hset _ _ (by omega)]
        simp only [lastAt, List.foldl]
        rw [if_pos (by omega)]; omega
      · rw [hset _ _ (by omega), hset _ _ (by omega), hpt i hi]
        simp only [lastAt, List.foldl]
        by_cases e : at1 l a = i
        · rw [if_pos e]
          constructor
          · rw [if_neg (by omega), if_neg (by omega), if_pos (by omega)]
          · rw [if_neg (by omega), if_pos (by omega)]
        · rw [if_neg e]
          constructor
          · rw [if_neg (by omega), if_neg (by omega), if_neg (by omega)]; exact (hat i (by omega)).1
          · rw [if_neg (by omega), if_neg (by omega), if_neg (by omega)]; exact (hat i (by omega)).2
    · rw [if_neg hb]
      refine ⟨?_, fun i hi => ?_⟩
      · rw [hset _ _ (by omega)]
        simp only [lastAt, List.foldl]
        rw [if_pos (by omega)]; omega
      · rw [hset _ _ (by omega), hset _ _ (by omega), hpt i hi, if_neg (by omega)]
        simp only [lastAt, List.foldl]
        rw [if_neg (by omega), if_neg (by omega)]
        exact hat i (by omega)
  · rw [if_neg (by decide), if_neg (by decide), if_pos rfl]
    have hd : doCl l ⟨4, a, o, n⟩ = if ¬ at1 l a < l.length then (l, ⟨6, 0⟩) else if ¬ (-1073741824 ≤ num l (at1 l a) + n ∧ num l (at1 l a) + n ≤ 1073741824) then (l, ⟨3, 0⟩) else (put1 l (at1 l a) (num l (at1 l a) + n), ⟨0, num l (at1 l a) + n⟩) := rfl
    by_cases ha : at1 l a < l.length
    case neg => rw [hd, if_pos ha] at he'; simp at he'
    rw [hd, if_neg (by simpa using ha)] at he' ⊢
    by_cases hs : -1073741824 ≤ num l (at1 l a) + n ∧ num l (at1 l a) + n ≤ 1073741824
    case neg => rw [if_pos hs] at he'; simp at he'
    rw [if_neg (by simpa using hs)]
    simp only [length_put1]
    refine ⟨?_, fun i hi => ?_⟩
    · rw [hset _ _ (by omega)]
      simp only [lastAt, List.foldl]
      rw [if_neg (by omega)]; exact hll
    · rw [hset _ _ (by omega), hset _ _ (by omega), fst_put1 _ _ _ _ ha, snd_put1 _ _ _ _ ha]
      simp only [lastAt, List.foldl]
      rw [if_neg (by omega)]
      refine ⟨(hat i hi).1, ?_⟩
      by_cases e : at1 l a = i
      · rw [if_pos (by omega), if_pos e]
      · rw [if_neg (by omega), if_neg e]; exact (hat i hi).2
  · rw [if_neg (by decide), if_neg (by decide), if_neg (by decide), if_neg (by decide)]
    exact ⟨hll, hat⟩
  · rw [if_neg (by decide), if_neg (by decide), if_neg (by decide), if_pos rfl]
    have hd : doCl l ⟨6, a, o, n⟩ = if ¬ at1 l a < l.length then (l, ⟨6, 0⟩) else if ¬ at1 l o < l.length then (l, ⟨6, 0⟩)
      else (put1 (put1 l (at1 l a) (num l (at1 l o))) (at1 l o) (num l (at1 l a)), ⟨0, num l (at1 l o)⟩) := rfl
    by_cases ha : at1 l a < l.length
    case neg => rw [hd, if_pos ha] at he'; simp at he'
    rw [hd, if_neg (by simpa using ha)] at he' ⊢
    by_cases hb : at1 l o < l.length
    case neg => rw [if_pos hb] at he'; simp at he'
    rw [if_neg (by simpa using hb)]
    have hb2 : at1 l o < (put1 l (at1 l a) (num l (at1 l o))).length := by rw [length_put1]; exact hb
    simp only [length_put1]
    refine ⟨?_, fun i hi => ?_⟩
    · rw [hset _ _ (by omega)]
      simp only [lastAt, List.foldl]
      rw [if_neg (by omega), if_neg (by omega)]; exact hll
    · rw [hset _ _ (by omega), hset _ _ (by omega), fst_put1 _ _ _ _ hb2, fst_put1 _ _ _ _ ha, snd_put1 _ _ _ _ hb2, snd_put1 _ _ _ _ ha]
      simp only [lastAt, List.foldl]
      rw [if_neg (by omega), if_neg (by omega)]
      refine ⟨(hat i hi).1, ?_⟩
      by_cases e : at1 l o = i
      · rw [if_pos (by omega), if_pos e]
      · rw [if_neg (by omega), if_neg e]
        by_cases e2 : at1 l a = i
        · rw [if_pos (by omega), if_pos e2]
        · rw [if_neg (by omega), if_neg e2]; exact (hat i hi).2

/-- Bit by bit as at once. -/
theorem plan_model {xs : List Int} {c : Cl} (hx : wrongOf xs = 0) (hc : wrongCl c = 0) :
    wrongOf (setAll xs (planCl (ofCells xs (xs.getD 0 0).toNat) c)) = 0 ∧
    ofCells (setAll xs (planCl (ofCells xs (xs.getD 0 0).toNat) c)) ((setAll xs (planCl (ofCells xs (xs.getD 0 0).toNat) c)).getD 0 0).toNat = (doCl (ofCells xs (xs.getD 0 0).toNat) c).1 := by
  obtain ⟨hl, x0, x5, hok⟩ := (right_iff xs).1 hx
  have hll : xs.getD 0 0 = ((ofCells xs (xs.getD 0 0).toNat).length : Int) := by rw [length_ofCells]; omega
  obtain ⟨h1, h2⟩ := plan_of (c := c) hl x0 hll (fun i hi => by rw [length_ofCells] at hi; rw [ofCells_at _ _ _ hi]; exact ⟨rfl, rfl⟩) hok hc
  have e := cells_are h1 h2
  refine ⟨?_, e⟩
  have hd := okn_do hok hc
  rw [right_iff, e]
  have := hd.1.len
  exact ⟨by rw [length_setAll]; exact hl, by omega, by omega, hd.1⟩

/-- Nobody sees it ahead of time. -/
theorem plan_late {xs : List Int} {c : Cl} (hx : wrongOf xs = 0) {k : Nat} (hk : k < (planCl (ofCells xs (xs.getD 0 0).toNat) c).length) :
    (setAll xs ((planCl (ofCells xs (xs.getD 0 0).toNat) c).take k)).getD 0 0 = xs.getD 0 0 ∧
    (c.kind = 1 → ofCells (setAll xs ((planCl (ofCells xs (xs.getD 0 0).toNat) c).take k)) (xs.getD 0 0).toNat = ofCells xs (xs.getD 0 0).toNat) := by
  obtain ⟨hl, x0, x5, hok⟩ := (right_iff xs).1 hx
  have hset : ∀ W j, j < 11 → (setAll xs W).getD j 0 = lastAt W j (xs.getD j 0) := fun W j hj => setAll_at xs W j (by omega)
  have hln : (ofCells xs (xs.getD 0 0).toNat).length = (xs.getD 0 0).toNat := length_ofCells _ _
  have none : ∀ (V : List (Int × Int)) (j : Int) (x : Int), (∀ p ∈ V, p.1 ≠ j) → lastAt V j x = x := by
    intro V
    induction V with
    | nil => intro j x _; rfl
    | cons p V ih =>
      intro j x h
      show lastAt V j (if p.1 = j then p.2 else x) = x
      rw [if_neg (h p (by simp))]
      exact ih j x (fun q hq => h q (by simp [hq]))
  have keep : ∀ W : List (Int × Int), (∀ p ∈ W, 1 + 2 * ((xs.getD 0 0).toNat : Int) ≤ p.1) → ofCells (setAll xs W) (xs.getD 0 0).toNat = ofCells xs (xs.getD 0 0).toNat := fun W hW => by
    refine ext_getD (by rw [length_ofCells, length_ofCells]) fun i hi => ?_
    rw [length_ofCells] at hi
    rw [ofCells_at _ _ _ hi, ofCells_at _ _ _ hi, hset _ _ (by omega), hset _ _ (by omega), none _ _ _ (fun p hp => by have := hW p hp; omega), none _ _ _ (fun p hp => by have := hW p hp; omega)]
  have hold : ∀ W : List (Int × Int), (∀ p ∈ W, p.1 ≠ 0) → (setAll xs W).getD 0 0 = xs.getD 0 0 := fun W hW => by
    rw [hset _ _ (by omega)]
    exact none _ _ _ hW
  by_cases he : (doCl (ofCells xs (xs.getD 0 0).toNat) c).2.err ≠ 0
  · rw [show planCl (ofCells xs (xs.getD 0 0).toNat) c = [] from if_pos he] at hk
    simp at hk
  rw [show planCl (ofCells xs (xs.getD 0 0).toNat) c = planX (ofCells xs (xs.getD 0 0).toNat) c from if_neg he] at hk ⊢
  unfold planX at hk ⊢
  rw [hln] at hk ⊢
  generalize at1 (ofCells xs (xs.getD 0 0).toNat) c.name = A at *
  generalize at1 (ofCells xs (xs.getD 0 0).toNat) c.other = B at *
  by_cases h1 : c.kind = 1
  · simp only [h1, if_true] at hk ⊢
    by_cases ha : A < (xs.getD 0 0).toNat
    · rw [if_pos ha] at hk ⊢
      have : k = 0 := by simp at hk; exact hk
      subst this
      exact ⟨rfl, fun _ => rfl⟩
    · rw [if_neg ha] at hk ⊢
      have hin : ∀ p ∈ List.take k [(1 + 2 * ((xs.getD 0 0).toNat : Int), c.name), (2 + 2 * ((xs.getD 0 0).toNat : Int), c.n), (0, ((xs.getD 0 0).toNat : Int) + 1)], 1 + 2 * ((xs.getD 0 0).toNat : Int) ≤ p.1 := by
        intro p hp
        rcases k with _ | _ | _ | k
        · simp at hp
        · simp at hp; subst hp; simp
        · simp at hp; rcases hp with rfl | rfl <;> simp <;> omega
        · simp at hk; omega
      exact ⟨hold _ (fun p hp => by have := hin p hp; omega), fun _ => keep _ hin⟩
  refine ⟨hold _ (fun p hp => ?_), fun h => absurd h h1⟩
  rw [if_neg h1] at hk hp
  by_cases h3 : c.kind = 3
  · rw [if_pos h3] at hk hp
    by_cases ha : A + 1 < (xs.getD 0 0).toNat
    · rw [if_pos ha] at hk hp
      rcases k with _ | _ | _ | k
      · simp at hp
      · simp at hp; subst hp; simp; omega
      · simp at hp; rcases hp with rfl | rfl <;> simp <;> omega
      · simp at hk; omega
    · rw [if_neg ha] at hk hp
      have : k = 0 := by simp at hk; exact hk
      subst this
      simp at hp
  rw [if_neg h3] at hk hp
  by_cases h4 : c.kind = 4
  · rw [if_pos h4] at hk hp
    have : k = 0 := by simp at hk; exact hk
    subst this
    simp at hp
  rw [if_neg h4] at hk hp
  by_cases h6 : c.kind = 6
  · rw [if_pos h6] at hk hp
    have hm := List.mem_of_mem_take hp
    simp at hm
    rcases hm with rfl | rfl <;> simp <;> omega
  · rw [if_neg h6] at hk
    simp at hk

end Go.Mk

namespace Go.Mk
open Go Go.RowKit

structure St where
  cells : List Int
  undo : List (Int × Int)
  answers : List An
  past : List Rq

theorem St.ext' {s t : St} (h1 : s.cells = t.cells) (h2 : s.undo = t.undo) (h3 : s.answers = t.answers) (h4 : s.past = t.past) : s = t := by
  cases s; cases t; simp at *; exact ⟨h1, h2, h3, h4⟩

def newSt : St := ⟨List.replicate 11 0, [], [], []⟩
def writeSt (s : St) (p : Int × Int) : St :=
  if 0 ≤ p.1 ∧ p.1 < (s.cells.length : Int) then { s with cells := set1 s.cells p, undo := (p.1, s.cells.getD p.1.toNat 0) :: s.undo } else s
def backSt (s : St) : St := { s with cells := setAll s.cells s.undo, undo := [] }
def putAn : List An → An → List An
  | [], a => [a]
  | x :: l, a => if x.client = a.client then a :: l else x :: putAn l a
def commitSt (s : St) (r : Rq) (says : Rp) : St := ⟨s.cells, [], putAn s.answers ⟨r.client, r.token, says⟩, s.past ++ [r]⟩
def lastAn : List An → Int → An × Bool
  | [], _ => (zeroAn, false)
  | x :: l, c => if x.client = c then (x, true) else lastAn l c
def rightSt (s : St) : Prop :=
  s.cells.length = 11 ∧ wrongOf (setAll s.cells s.undo) = 0 ∧ s.undo.length ≤ 100 ∧ s.answers.length ≤ 3 ∧ s.past.length ≤ 100 ∧ (∀ a ∈ s.answers, wrongAn a = 0) ∧
    (∀ i j : Nat, i < j → ∀ a b : An, s.answers[i]? = some a → s.answers[j]? = some b → a.client ≠ b.client) ∧ ∀ p ∈ s.undo, 0 ≤ p.1 ∧ p.1 ≤ 10

theorem last_put (l : List An) (a : An) : lastAn (putAn l a) a.client = (a, true) := by
  induction l with
  | nil => simp [putAn, lastAn]
  | cons x l ih =>
    unfold putAn
    by_cases h : x.client = a.client
    · rw [if_pos h]; simp [lastAn]
    · rw [if_neg h, lastAn, if_neg h]; exact ih
theorem last_other (l : List An) (a : An) (c : Int) (hc : c ≠ a.client) : lastAn (putAn l a) c = lastAn l c := by
  induction l with
  | nil => simp [putAn, lastAn]; intro h; exact absurd h.symm hc
  | cons x l ih =>
    unfold putAn
    by_cases h : x.client = a.client
    · rw [if_pos h, lastAn, lastAn, if_neg (fun e => hc e.symm), if_neg (fun e => hc (e.symm.trans h))]
    · rw [if_neg h, lastAn, lastAn, ih]
theorem length_putAn (l : List An) (a : An) : (putAn l a).length ≤ l.length + 1 := by
  induction l with
  | nil => simp [putAn]
  | cons x l ih =>
    unfold putAn
    split
    · simp
    · simp; omega

/-- To each their own. -/
theorem last_commit (s : St) (r : Rq) (says : Rp) (c : Int) (hc : c ≠ r.client) : lastAn (commitSt s r says).answers c = lastAn s.answers c := last_other _ _ _ hc
theorem last_mine (s : St) (r : Rq) (says : Rp) : lastAn (commitSt s r says).answers r.client = (⟨r.client, r.token, says⟩, true) := last_put s.answers ⟨r.client, r.token, says⟩

theorem set1_back (xs : List Int) (p : Int × Int) (h0 : 0 ≤ p.1) (h1 : p.1 < (xs.length : Int)) : set1 (set1 xs p) (p.1, xs.getD p.1.toNat 0) = xs := by
  obtain ⟨i, hi⟩ : ∃ i : Nat, p.1 = (i : Int) := ⟨p.1.toNat, by omega⟩
  have hl : i < xs.length := by omega
  have hlen : (set1 xs p).length = xs.length := by have := length_setAll xs [p]; simpa [setAll] using this
  have hlen2 : (set1 (set1 xs p) (p.1, xs.getD p.1.toNat 0)).length = xs.length := by have := length_setAll (set1 xs p) [(p.1, xs.getD p.1.toNat 0)]; rw [hlen] at this; simpa [setAll] using this
  refine List.ext_getElem? fun j => ?_
  by_cases hj : j < xs.length
  · have a1 := set1_at (set1 xs p) (p.1, xs.getD p.1.toNat 0) j (by omega)
    have a2 := set1_at xs p j hj
    rw [a2] at a1
    rw [List.getD_eq_getElem?_getD, List.getElem?_eq_getElem (by omega)] at a1
    rw [List.getElem?_eq_getElem (by omega), List.getElem?_eq_getElem hj]
    simp only [Option.getD_some] at a1
    rw [a1]
    congr 1
    by_cases hp : p.1 = (j : Int)
    · rw [if_pos hp, hp]; simp [hj]
    · rw [if_neg hp, if_neg hp]; simp [hj]
  · rw [List.getElem?_eq_none (by omega), List.getElem?_eq_none (by omega)]

/-- All of it, or nothing. -/
theorem back_write (s : St) (p : Int × Int) : backSt (writeSt s p) = backSt s := by
  unfold writeSt
  by_cases h : 0 ≤ p.1 ∧ p.1 < (s.cells.length : Int)
  · rw [if_pos h]
    unfold backSt
    refine St.ext' ?_ rfl rfl rfl
    show setAll (set1 s.cells p) ((p.1, s.cells.getD p.1.toNat 0) :: s.undo) = setAll s.cells s.undo
    have : setAll (set1 s.cells p) ((p.1, s.cells.getD p.1.toNat 0) :: s.undo) = setAll (set1 (set1 s.cells p) (p.1, s.cells.getD p.1.toNat 0)) s.undo := rfl
    rw [this, set1_back _ _ h.1 h.2]
  · rw [if_neg h]
theorem back_writes (l : List (Int × Int)) (s : St) : backSt (l.foldl writeSt s) = backSt s := by
  induction l generalizing s with
  | nil => rfl
  | cons p l ih => rw [List.foldl_cons, ih, back_write]
theorem back_commit (s : St) (r : Rq) (says : Rp) : backSt (commitSt s r says) = commitSt s r says := rfl
theorem length_write (s : St) (p : Int × Int) : (writeSt s p).cells.length = s.cells.length := by
  unfold writeSt
  split
  · show (set1 s.cells p).length = _
    have := length_setAll s.cells [p]; simpa [setAll] using this
  · rfl
end Go.Mk

namespace Go.Mk
open Go Go.RowKit

structure Sv where
  gen : Int
  box : List (List UInt8)
  busy : Bool
  now : Rq
  plan : List (Int × Int)
  says : Rp

structure Cn where
  calls : List Cl
  at_ : Int
  sent : Bool
  gen : Int
  box : List (List UInt8)
  got : List Rp

structure Mc where
  store : St
  server : Sv
  up : Bool
  pause : Int
  falls : Int
  clients : List Cn

def idleSv (gen : Int) (box : List (List UInt8)) : Sv := ⟨gen, box, false, zeroRq, [], ⟨0, 0⟩⟩

/-- Bytes come to a server. -/
def comeSv (v : Sv) (b : List UInt8) : Sv × Int := if 3 ≤ v.box.length then (v, 9) else ({ v with box := v.box ++ [b] }, 0)

/-- The names that a store's cells have. -/
def namesOf (xs : List Int) : List (Int × Int) := ofCells xs (xs.getD 0 0).toNat

/-- A server goes on. -/
def serveM (s : St) (v : Sv) : St × Sv × List UInt8 × Int :=
  if v.busy then
    match v.plan with
    | p :: l => (writeSt s p, { v with plan := l }, [], 0)
    | [] => (commitSt s v.now v.says, idleSv v.gen v.box, ansB ⟨v.now.client, v.now.token, v.says⟩, 0)
  else
    match v.box with
    | [] => (s, v, [], 12)
    | b :: l =>
      let v' : Sv := { v with box := l }
      if (readRq b).2 ≠ 0 then (s, v', [], 0)
      else
        let r := (readRq b).1
        let a := lastAn s.answers r.client
        if a.2 ∧ r.token ≤ a.1.token then
          if a.1.token = r.token then (s, v', ansB a.1, 0) else (s, v', [], 0)
        else (s, { v' with busy := true, now := r, plan := planCl (namesOf s.cells) r.call, says := (doCl (namesOf s.cells) r.call).2 }, [], 0)

def pauseOf (falls : Int) : Int := if falls < 1 then 1 else if 3 < falls then 3 else falls

def fallM (m : Mc) : Mc × Int :=
  if ¬ m.up then (m, 11) else if 6 ≤ m.falls then (m, 5)
  else ({ m with falls := m.falls + 1, up := false, pause := pauseOf (m.falls + 1), server := idleSv m.server.gen [] }, 0)

def tickM (m : Mc) : Mc :=
  if m.up then m else if 1 < m.pause then { m with pause := m.pause - 1 }
  else { m with up := true, pause := 0, store := backSt m.store, server := idleSv (m.server.gen + 1) [] }

/-- A client goes on. -/
def goCn (c : Cn) (me gen : Int) (up : Bool) : Cn × List UInt8 × Int :=
  match c.box with
  | b :: l =>
    let c' : Cn := { c with box := l }
    let a := readAn b
    if a.2 = 0 ∧ a.1.client = me ∧ a.1.token = c.at_ ∧ c.sent = true then ({ c' with got := c.got ++ [a.1.reply], at_ := c.at_ + 1, sent := false }, [], 0)
    else (c', [], 0)
  | [] =>
    if (c.calls.length : Int) ≤ c.at_ then (c, [], 11)
    else if ¬ up then (c, [], 10)
    else if c.sent ∧ c.gen = gen then (c, [], 12)
    else ({ c with sent := true, gen := gen }, reqB ⟨me, c.at_, c.calls.getD c.at_.toNat ⟨0, 0, 0, 0⟩⟩, 0)

def comeCn (c : Cn) (b : List UInt8) : Cn := if c.box.length < 3 then { c with box := c.box ++ [b] } else c

def newCn (calls : List Cl) : Cn := ⟨calls, 0, false, 0, [], []⟩
def newMc (l : List (List Cl)) : Mc := ⟨newSt, idleSv 0 [], true, 0, 0, l.map newCn⟩
def rightL (l : List (List Cl)) : Prop := l.length ≤ 3 ∧ ∀ c ∈ l, c.length ≤ 8 ∧ ∀ x ∈ c, wrongCl x = 0

/-- A step. -/
def doM (m : Mc) (kind n : Int) : Mc × Int :=
  if kind = 1 then
    if n < 0 ∨ (m.clients.length : Int) ≤ n then (m, 6)
    else
      let c := goCn (m.clients.getD n.toNat (newCn [])) n m.server.gen m.up
      if c.2.2 ≠ 0 then (m, c.2.2)
      else if c.2.1 ≠ [] then
        let v := comeSv m.server c.2.1
        if v.2 ≠ 0 then (m, v.2) else ({ m with server := v.1, clients := m.clients.set n.toNat c.1 }, 0)
      else ({ m with clients := m.clients.set n.toNat c.1 }, 0)
  else if kind = 2 then
    if ¬ m.up then (m, 10)
    else
      let x := serveM m.store m.server
      if x.2.2.2 ≠ 0 then (m, x.2.2.2)
      else
        let m' : Mc := { m with store := x.1, server := x.2.1 }
        if x.2.2.1 ≠ [] then
          let k := (x.2.2.1.getD 1 0).toNat
          if k < m.clients.length then ({ m' with clients := m.clients.set k (comeCn (m.clients.getD k (newCn [])) x.2.2.1) }, 0) else (m', 0)
        else (m', 0)
  else if kind = 3 then fallM m
  else if kind = 4 then (tickM m, 0)
  else (m, 1)

def playM (m : Mc) (steps : List (Int × Int)) : Mc := steps.foldl (fun m s => (doM m s.1 s.2).1) m

def roundM (m : Mc) : Mc :=
  let m1 := tickM m
  let m2 := (List.range m1.clients.length).foldl (fun m (n : Nat) => (doM m 1 (n : Int)).1) m1
  (doM m2 2 0).1

def idleM (m : Mc) : Prop := ∀ c ∈ m.clients, (c.calls.length : Int) ≤ c.at_
end Go.Mk

namespace Go.Mk
open Go Go.RowKit

def elCl : El Cl := fun _ c x => c = [I x.kind, I x.name, I x.other, I x.n]
def elAn : El An := fun _ c x => c = [I x.client, I x.token, I x.reply.err, I x.reply.n]
def elRq : El Rq := fun _ c x => c = [I x.client, I x.token, I x.call.kind, I x.call.name, I x.call.other, I x.call.n]
def elRp : El Rp := fun _ c x => c = [I x.err, I x.n]
def elBs : El (List UInt8) := fun w c x => ∃ v, c = [v] ∧ Bytes w v x
def elCls : El (List Cl) := fun w c x => ∃ v, c = [v] ∧ RowOf 4 elCl w v x

theorem monoCl : MonoR elCl := fun _ _ _ _ _ h => h
theorem monoAn : MonoR elAn := fun _ _ _ _ _ h => h
theorem monoRq : MonoR elRq := fun _ _ _ _ _ h => h
theorem monoRp : MonoR elRp := fun _ _ _ _ _ h => h
theorem monoBs : MonoR elBs := fun _ _ _ _ he ⟨v, e, h⟩ => ⟨v, e, h.ext he⟩
theorem monoCls' : MonoR elCls := fun _ _ _ _ he ⟨v, e, h⟩ => ⟨v, e, h.ext monoCl he⟩

theorem ones_of {l : List Value} (h : l.all (fun u => u.oneCell') = true) : ∀ u ∈ l, u.oneCell' = true := fun u hu => List.all_eq_true.1 h u hu
theorem oneCl : OneR elCl := fun _ _ _ h => by rw [h]; exact ones_of rfl
theorem oneAn : OneR elAn := fun _ _ _ h => by rw [h]; exact ones_of rfl
theorem oneRq : OneR elRq := fun _ _ _ h => by rw [h]; exact ones_of rfl
theorem oneRp : OneR elRp := fun _ _ _ h => by rw [h]; exact ones_of rfl
theorem row_one {w : World} {size n : Nat} {v : Value} {cs : List Value} (h : Row w size v n cs) : v.oneCell' = true := by
  obtain ⟨_, ao, cap, rfl, _⟩ := h
  rfl
theorem rowOf_one {X : Type} {R : El X} {w : World} {size : Nat} {v : Value} {xs : List X} (h : RowOf size R w v xs) : v.oneCell' = true := by
  obtain ⟨_, _, h⟩ := h
  exact row_one h
theorem oneBs : OneR elBs := fun _ _ _ ⟨v, e, h⟩ u hu => by
  rw [e] at hu
  simp at hu
  rw [hu]
  exact row_one h
theorem oneCls : OneR elCls := fun _ _ _ ⟨v, e, h⟩ u hu => by
  rw [e] at hu
  simp at hu
  rw [hu]
  exact rowOf_one h

/-- A client's cells. -/
def elCn : El Cn := fun w c x => ∃ calls box got, c = [calls, I x.at_, .bool x.sent, I x.gen, box, got] ∧ RowOf 4 elCl w calls x.calls ∧ RowOf 1 elBs w box x.box ∧ RowOf 2 elRp w got x.got
theorem monoCn : MonoR elCn := fun _ _ _ _ he ⟨a, b, d, e, h1, h2, h3⟩ => ⟨a, b, d, e, h1.ext monoCl he, h2.ext monoBs he, h3.ext monoRp he⟩
theorem oneCn : OneR elCn := fun _ _ _ ⟨a, b, d, e, h1, h2, h3⟩ u hu => by
  rw [e] at hu
  simp at hu
  rcases hu with rfl | rfl | rfl | rfl | rfl | rfl
  · exact rowOf_one h1
  · rfl
  · rfl
  · rfl
  · exact rowOf_one h2
  · exact rowOf_one h3

/-- A store's cells. -/
def elSt : El St := fun w c x => ∃ a b d e, c = [a, b, d, e] ∧ Ints w a x.cells ∧ Writes w b x.undo ∧ RowOf 4 elAn w d x.answers ∧ RowOf 6 elRq w e x.past
theorem monoSt : MonoR elSt := fun _ _ _ _ he ⟨a, b, d, e, h, h1, h2, h3, h4⟩ => ⟨a, b, d, e, h, h1.ext he, h2.ext he, h3.ext monoAn he, h4.ext monoRq he⟩

/-- A server's cells. -/
def elSv : El Sv := fun w c x => ∃ box plan, c = [I x.gen, box, .bool x.busy, I x.now.client, I x.now.token, I x.now.call.kind, I x.now.call.name, I x.now.call.other, I x.now.call.n, plan, I x.says.err, I x.says.n] ∧
  RowOf 1 elBs w box x.box ∧ Writes w plan x.plan
theorem monoSv : MonoR elSv := fun _ _ _ _ he ⟨a, b, h, h1, h2⟩ => ⟨a, b, h, h1.ext monoBs he, h2.ext he⟩

/-- A machine's cells. -/
def elMc : El Mc := fun w c x => ∃ s v cl, c = s ++ v ++ [.bool x.up, I x.pause, I x.falls, cl] ∧ elSt w s x.store ∧ elSv w v x.server ∧ RowOf 6 elCn w cl x.clients
theorem monoMc : MonoR elMc := fun _ _ _ _ he ⟨s, v, cl, h, h1, h2, h3⟩ => ⟨s, v, cl, h, monoSt _ _ _ _ he h1, monoSv _ _ _ _ he h2, h3.ext monoCn he⟩

/-- Where an element's cells are a function of it. -/
theorem rowOf_flat {X : Type} {f : X → List Value} {size : Nat} {w : World} {v : Value} {xs : List X} (hf : ∀ x, (f x).length = size) : RowOf size (fun _ c x => c = f x) w v xs ↔ Row w size v xs.length (xs.flatMap f) := by
  constructor
  · rintro ⟨css, he, hr⟩
    rw [flat_of (f := f) he.1 (fun i c x hc hx => (he.2 i c x hc hx).2)] at hr
    exact hr
  · intro h
    refine ⟨xs.map f, ⟨by simp, fun i c x hc hx => ?_⟩, ?_⟩
    · rw [List.getElem?_map, hx] at hc
      simp at hc
      subst hc
      exact ⟨hf x, rfl⟩
    · rw [← List.flatMap_def]
      exact h
theorem rowOf_reqs {w : World} {v : Value} {l : List Rq} : RowOf 6 elRq w v l ↔ Reqs w v l := rowOf_flat (f := fun (r : Rq) => [I r.client, I r.token, I r.call.kind, I r.call.name, I r.call.other, I r.call.n]) (fun _ => rfl)

end Go.Mk

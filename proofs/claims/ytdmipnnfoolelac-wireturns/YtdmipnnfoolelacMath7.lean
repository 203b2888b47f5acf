/- Chapter 5, plain mathematics: requests and answers as bytes. -/
import Derived.Test.YtdmipnnfoolelacMath3
namespace Go.Mk
open Go Go.RowKit

structure An where
  client : Int
  token : Int
  reply : Rp

def whoOk (c t : Int) : Prop := 0 ≤ c ∧ c < 3 ∧ 0 ≤ t ∧ t < 8
def wrongRq (r : Rq) : Int := if ¬ (0 ≤ r.client ∧ r.client < 3 ∧ 0 ≤ r.token ∧ r.token < 8) then 3 else wrongCl r.call
def wrongAn (a : An) : Int :=
  if ¬ (0 ≤ a.client ∧ a.client < 3 ∧ 0 ≤ a.token ∧ a.token < 8) ∨ a.reply.err < 0 ∨ 12 < a.reply.err ∨ 1073741824 < a.reply.n ∨ a.reply.n < -1073741824 ∨ (0 < a.reply.err ∧ a.reply.n ≠ 0) then 3 else 0

/-- A number in a byte, and in four. -/
def byteOf (n : Int) : UInt8 := UInt8.ofNat (n % 256).toNat
def u32 (n : Int) : Nat := (n % 4294967296).toNat
def fourB (n : Int) : List UInt8 := [UInt8.ofNat (u32 n / 16777216), UInt8.ofNat (u32 n / 65536 % 256), UInt8.ofNat (u32 n / 256 % 256), UInt8.ofNat (u32 n % 256)]
def int32 (u : Nat) : Int := if u < 2147483648 then (u : Int) else (u : Int) - 4294967296
def numB (b : List UInt8) : Int := int32 ((((b.getD 0 0).toNat * 256 + (b.getD 1 0).toNat) * 256 + (b.getD 2 0).toNat) * 256 + (b.getD 3 0).toNat)

theorem byteOf_toNat {n : Int} (h0 : 0 ≤ n) (h1 : n ≤ 255) : ((byteOf n).toNat : Int) = n := by
  unfold byteOf
  rw [UInt8.toNat_ofNat']
  omega
theorem byteOf_of (b : UInt8) : byteOf (b.toNat : Int) = b := by
  have := b.toNat_lt
  unfold byteOf
  have e : (((b.toNat : Int) % 256).toNat) = b.toNat := by omega
  rw [e]
  simp
theorem u32_lt (n : Int) : u32 n < 4294967296 := by unfold u32; omega
theorem int32_u32 {n : Int} (h0 : -2147483648 ≤ n) (h1 : n < 2147483648) : int32 (u32 n) = n := by
  unfold int32 u32
  split <;> omega
theorem numB_four {n : Int} (h0 : -2147483648 ≤ n) (h1 : n < 2147483648) : numB (fourB n) = n := by
  have hu := u32_lt n
  unfold numB fourB
  simp only [List.getD_cons_zero, List.getD_cons_succ, UInt8.toNat_ofNat']
  have e : (((u32 n / 16777216 % 256) * 256 + u32 n / 65536 % 256 % 256) * 256 + u32 n / 256 % 256 % 256) * 256 + u32 n % 256 % 256 = u32 n := by omega
  rw [show (2 ^ 8 : Nat) = 256 from rfl, e, int32_u32 h0 h1]
theorem four_numB (a b c d : UInt8) : fourB (numB [a, b, c, d]) = [a, b, c, d] := by
  have ha := a.toNat_lt
  have hb := b.toNat_lt
  have hc := c.toNat_lt
  have hd := d.toNat_lt
  have e : u32 (numB [a, b, c, d]) = ((a.toNat * 256 + b.toNat) * 256 + c.toNat) * 256 + d.toNat := by
    unfold numB int32 u32
    simp only [List.getD_cons_zero, List.getD_cons_succ]
    split <;> omega
  unfold fourB
  rw [e]
  have e1 : (((a.toNat * 256 + b.toNat) * 256 + c.toNat) * 256 + d.toNat) / 16777216 = a.toNat := by omega
  have e2 : (((a.toNat * 256 + b.toNat) * 256 + c.toNat) * 256 + d.toNat) / 65536 % 256 = b.toNat := by omega
  have e3 : (((a.toNat * 256 + b.toNat) * 256 + c.toNat) * 256 + d.toNat) / 256 % 256 = c.toNat := by omega
  have e4 : (((a.toNat * 256 + b.toNat) * 256 + c.toNat) * 256 + d.toNat) % 256 = d.toNat := by omega
  rw [e1, e2, e3, e4]
  simp

def zeroRq : Rq := ⟨0, 0, ⟨0, 0, 0, 0⟩⟩
def zeroAn : An := ⟨0, 0, ⟨0, 0⟩⟩
def reqB (r : Rq) : List UInt8 := [113, byteOf r.client, byteOf r.token, byteOf r.call.kind, byteOf r.call.name, byteOf r.call.other] ++ fourB r.call.n
def ansB (a : An) : List UInt8 := [97, byteOf a.client, byteOf a.token, byteOf a.reply.err] ++ fourB a.reply.n
def rqOf (b : List UInt8) : Rq := ⟨(b.getD 1 0).toNat, (b.getD 2 0).toNat, ⟨(b.getD 3 0).toNat, (b.getD 4 0).toNat, (b.getD 5 0).toNat, numB (b.drop 6)⟩⟩
def anOf (b : List UInt8) : An := ⟨(b.getD 1 0).toNat, (b.getD 2 0).toNat, ⟨(b.getD 3 0).toNat, numB (b.drop 4)⟩⟩
def readRq (b : List UInt8) : Rq × Int :=
  if b.length ≠ 10 ∨ b.getD 0 0 ≠ 113 then (zeroRq, 2) else if wrongRq (rqOf b) ≠ 0 then (zeroRq, wrongRq (rqOf b)) else (rqOf b, 0)
def readAn (b : List UInt8) : An × Int :=
  if b.length ≠ 8 ∨ b.getD 0 0 ≠ 97 then (zeroAn, 2) else if wrongAn (anOf b) ≠ 0 then (zeroAn, wrongAn (anOf b)) else (anOf b, 0)

theorem wrongRq_parts {r : Rq} (h : wrongRq r = 0) : (0 ≤ r.client ∧ r.client < 3 ∧ 0 ≤ r.token ∧ r.token < 8) ∧ wrongCl r.call = 0 := by
  unfold wrongRq at h
  split at h
  · exact absurd h (by decide)
  · rename_i hw
    exact ⟨by omega, h⟩
theorem wrongCl_bytes {c : Cl} (h : wrongCl c = 0) : (0 ≤ c.kind ∧ c.kind ≤ 255) ∧ (0 ≤ c.name ∧ c.name ≤ 255) ∧ (0 ≤ c.other ∧ c.other ≤ 255) ∧ (-1073741824 ≤ c.n ∧ c.n ≤ 1073741824) := by
  unfold wrongCl at h
  repeat' split at h
  all_goals first | exact absurd h (by decide) | skip
  refine ⟨?_, ?_, ?_, ?_⟩ <;> omega
theorem wrongAn_parts {a : An} (h : wrongAn a = 0) : (0 ≤ a.client ∧ a.client < 3 ∧ 0 ≤ a.token ∧ a.token < 8) ∧ (0 ≤ a.reply.err ∧ a.reply.err ≤ 12) ∧ (-1073741824 ≤ a.reply.n ∧ a.reply.n ≤ 1073741824) ∧ (0 < a.reply.err → a.reply.n = 0) := by
  unfold wrongAn at h
  split at h
  · exact absurd h (by decide)
  · rename_i hw
    omega
theorem rqOf_req {r : Rq} (h : wrongRq r = 0) : rqOf (reqB r) = r := by
  obtain ⟨hw, hc⟩ := wrongRq_parts h
  obtain ⟨h1, h2, h3, h4⟩ := wrongCl_bytes hc
  obtain ⟨cl, tk, ⟨k, a, o, n⟩⟩ := r
  simp only at *
  have e : rqOf (reqB ⟨cl, tk, ⟨k, a, o, n⟩⟩) = ⟨((byteOf cl).toNat : Int), ((byteOf tk).toNat : Int), ⟨((byteOf k).toNat : Int), ((byteOf a).toNat : Int), ((byteOf o).toNat : Int), numB (fourB n)⟩⟩ := rfl
  rw [e, byteOf_toNat (by omega) (by omega), byteOf_toNat (by omega) (by omega), byteOf_toNat h1.1 h1.2, byteOf_toNat h2.1 h2.2, byteOf_toNat h3.1 h3.2, numB_four (by omega) (by omega)]
theorem anOf_ans {a : An} (h : wrongAn a = 0) : anOf (ansB a) = a := by
  obtain ⟨hw, h1, h2, _⟩ := wrongAn_parts h
  obtain ⟨cl, tk, ⟨e0, n⟩⟩ := a
  simp only at *
  have e : anOf (ansB ⟨cl, tk, ⟨e0, n⟩⟩) = ⟨((byteOf cl).toNat : Int), ((byteOf tk).toNat : Int), ⟨((byteOf e0).toNat : Int), numB (fourB n)⟩⟩ := rfl
  rw [e, byteOf_toNat (by omega) (by omega), byteOf_toNat (by omega) (by omega), byteOf_toNat (by omega) (by omega), numB_four (by omega) (by omega)]
/-- There, and back. -/
theorem readRq_req {r : Rq} (h : wrongRq r = 0) : readRq (reqB r) = (r, 0) := by
  have hl : (reqB r).length = 10 := rfl
  have h0 : (reqB r).getD 0 0 = 113 := rfl
  unfold readRq
  rw [if_neg (by rw [hl, h0]; simp), rqOf_req h, if_neg (by simp [h])]
theorem readAn_ans {a : An} (h : wrongAn a = 0) : readAn (ansB a) = (a, 0) := by
  have hl : (ansB a).length = 8 := rfl
  have h0 : (ansB a).getD 0 0 = 97 := rfl
  unfold readAn
  rw [if_neg (by rw [hl, h0]; simp), anOf_ans h, if_neg (by simp [h])]
theorem req_readRq {b : List UInt8} {r : Rq} (h : readRq b = (r, 0)) : reqB r = b ∧ wrongRq r = 0 := by
  unfold readRq at h
  by_cases h1 : b.length ≠ 10 ∨ b.getD 0 0 ≠ 113
  · rw [if_pos h1] at h; cases h
  rw [if_neg h1] at h
  by_cases h2 : wrongRq (rqOf b) ≠ 0
  · rw [if_pos h2] at h
    injection h with _ h
    exact absurd h h2
  rw [if_neg h2] at h
  injection h with h _
  subst h
  refine ⟨?_, by simpa using h2⟩
  have hl : b.length = 10 := by simpa using (not_or.1 h1).1
  have h0 : b.getD 0 0 = 113 := by simpa using (not_or.1 h1).2
  match b, hl, h0 with
  | [b0, b1, b2, b3, b4, b5, b6, b7, b8, b9], _, h0 =>
    have h0 : b0 = 113 := h0
    subst h0
    show [113, byteOf (b1.toNat : Int), byteOf (b2.toNat : Int), byteOf (b3.toNat : Int), byteOf (b4.toNat : Int), byteOf (b5.toNat : Int)] ++ fourB (numB [b6, b7, b8, b9]) = _
    rw [byteOf_of, byteOf_of, byteOf_of, byteOf_of, byteOf_of, four_numB]
    rfl
theorem ans_readAn {b : List UInt8} {a : An} (h : readAn b = (a, 0)) : ansB a = b ∧ wrongAn a = 0 := by
  unfold readAn at h
  by_cases h1 : b.length ≠ 8 ∨ b.getD 0 0 ≠ 97
  · rw [if_pos h1] at h; cases h
  rw [if_neg h1] at h
  by_cases h2 : wrongAn (anOf b) ≠ 0
  · rw [if_pos h2] at h
    injection h with _ h
    exact absurd h h2
  rw [if_neg h2] at h
  injection h with h _
  subst h
  refine ⟨?_, by simpa using h2⟩
  have hl : b.length = 8 := by simpa using (not_or.1 h1).1
  have h0 : b.getD 0 0 = 97 := by simpa using (not_or.1 h1).2
  match b, hl, h0 with
  | [b0, b1, b2, b3, b4, b5, b6, b7], _, h0 =>
    have h0 : b0 = 97 := h0
    subst h0
    show [97, byteOf (b1.toNat : Int), byteOf (b2.toNat : Int), byteOf (b3.toNat : Int)] ++ fourB (numB [b4, b5, b6, b7]) = _
    rw [byteOf_of, byteOf_of, byteOf_of, four_numB]
    rfl
/-- What is unlike looks unlike. -/
theorem req_inj {p q : Rq} (hp : wrongRq p = 0) (hq : wrongRq q = 0) : reqB p = reqB q ↔ p = q := by
  refine ⟨fun h => ?_, fun h => by rw [h]⟩
  have h1 := readRq_req hp
  rw [h, readRq_req hq] at h1
  injection h1 with h1 _
  exact h1.symm
theorem ans_inj {a b : An} (ha : wrongAn a = 0) (hb : wrongAn b = 0) : ansB a = ansB b ↔ a = b := by
  refine ⟨fun h => ?_, fun h => by rw [h]⟩
  have h1 := readAn_ans ha
  rw [h, readAn_ans hb] at h1
  injection h1 with h1 _
  exact h1.symm
/-- None are both. -/
theorem not_both (b : List UInt8) : (readRq b).2 ≠ 0 ∨ (readAn b).2 ≠ 0 := by
  by_cases h : b.length = 10
  · right
    unfold readAn
    rw [if_pos (.inl (by omega))]
    decide
  · left
    unfold readRq
    rw [if_pos (.inl h)]
    decide

end Go.Mk

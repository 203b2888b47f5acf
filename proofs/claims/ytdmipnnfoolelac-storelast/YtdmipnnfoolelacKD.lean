/- Texts of the proof, merged: Frame Frame4 Frame2 Frame3 Base D1 W1b D2 D3 D9 Box S1 S2 M1a M1b E1 E2 E3 E4. -/
import Derived.Test.YtdmipnnfoolelacRows
import Derived.Test.YtdmipnnfoolelacKA
import Derived.Test.YtdmipnnfoolelacKC
import Derived.Test.YtdmipnnfoolelacKB
import Derived.Deep.QuietTactic
import Derived.BigQuiet
import Derived.BigRegion
import Derived.Handy
import Derived.Lib.Hide
import Derived.Laws.BitsAllLaws

namespace Go.Proofs.Ytdmipnnfoolelac
open Go.RowKit Go.Mk

theorem Try.own : ownKnob Try.prog.godebug = none := by kernel_rfl
theorem Try.laidOut : laidOutB Try.prog = true := by kernel_rfl
theorem Try.cellsInt : Try.prog.cellsOf 3 = 1 := by kernel_rfl
theorem Try.cellsWrite : Try.prog.cellsOf 50 = 2 := by kernel_rfl
theorem Try.bytesInt : Try.prog.bytesOf 3 = 8 := by kernel_rfl
theorem Try.bytesWrite : Try.prog.bytesOf 50 = 16 := by kernel_rfl

/-- What the reach says of a slice. -/
theorem reach_of {H : Type} {P : Program} {ts : List TypeId} {ds : List (DataW H)} {j : Nat} {t e : TypeId} {d : DataW H} {n k : Nat} (h : (DataW.weightsEach P ts ds).all (· ≤ reachBytes) = true) (ht : ts[j]? = some t) (hd : ds[j]? = some d) (hu : P.underlying t = some (.slice e)) (hb : P.bytesOf e = k)
    (hs : n = 0 ∨ ∃ elems spare, d = .slice elems spare ∧ elems.length = n) : n * k ≤ 140737488355328 := by
  rcases hs with rfl | ⟨elems, spare, rfl, rfl⟩
  · omega
  · have := sized_slice h ht hd hu
    rw [hb] at this
    have h2 : elems.length * k ≤ (elems.length + spare.length) * k := Nat.mul_le_mul_right _ (by omega)
    unfold reachBytes at this
    omega
theorem len_or {α : Type} {H : Type} {l : List α} {d : DataW H} (h : l = [] ∨ ∃ elems spare, d = .slice elems spare ∧ elems.length = l.length) : l.length = 0 ∨ ∃ elems spare, d = .slice elems spare ∧ elems.length = l.length := by
  rcases h with h | h
  · exact .inl (by rw [h]; rfl)
  · exact .inr h

end Go.Proofs.Ytdmipnnfoolelac

namespace Go.Proofs.Ytdmipnnfoolelac
open Go.RowKit Go.Mk

theorem Try.stTypes : StTypes Try.prog 48 43 3 44 50 45 30 26 46 25 23 28 where
  whole := ⟨_, _, _, _, Try.underlying48, rfl, rfl, rfl, rfl, rfl, rfl, rfl, rfl⟩
  sc := ⟨by kernel_rfl, by kernel_rfl, by kernel_rfl, by kernel_rfl, by kernel_rfl⟩
  ints := ⟨Try.underlying43, Try.underlying3, by kernel_rfl, Try.underlying26, by kernel_rfl⟩
  writes := ⟨Try.underlying44, by kernel_rfl, _, _, Try.underlying50, rfl, rfl, rfl, rfl⟩
  reply := ⟨by kernel_rfl, _, _, Try.underlying28, rfl, rfl, rfl, rfl⟩
  call := ⟨by kernel_rfl, _, _, _, _, Try.underlying23, rfl, rfl, rfl, rfl, rfl, rfl, rfl, rfl⟩
  anss := ⟨Try.underlying45, by kernel_rfl, _, _, _, Try.underlying30, rfl, rfl, rfl, rfl, rfl, rfl⟩
  reqs := ⟨Try.underlying46, by kernel_rfl, _, _, _, Try.underlying25, rfl, rfl, rfl, rfl, rfl, rfl⟩

end Go.Proofs.Ytdmipnnfoolelac

namespace Go.Proofs.Ytdmipnnfoolelac
open Go.RowKit Go.Mk

theorem Try.cellsCall : Try.prog.cellsOf 23 = 4 := by kernel_rfl
theorem Try.cellsRequest : Try.prog.cellsOf 25 = 6 := by kernel_rfl
theorem Try.bytesRequest : Try.prog.bytesOf 25 = 48 := by kernel_rfl

end Go.Proofs.Ytdmipnnfoolelac

namespace Go.Proofs.Ytdmipnnfoolelac
open Go.RowKit Go.Mk

theorem Try.cellsReply : Try.prog.cellsOf 28 = 2 := by kernel_rfl
theorem Try.cellsErrno : Try.prog.cellsOf 26 = 1 := by kernel_rfl
theorem Try.cellsAnswer : Try.prog.cellsOf 30 = 4 := by kernel_rfl
theorem Try.cellsByte : Try.prog.cellsOf 5 = 1 := by kernel_rfl

end Go.Proofs.Ytdmipnnfoolelac

namespace Go.Proofs.Ytdmipnnfoolelac
open Go.RowKit Go.Mk

theorem Try.infoInt : (Try.prog.info? 3).map (fun i => (i.zero, i.size, i.bytes)) = some (some (.int .i64 0), 1, 8) := by kernel_rfl

theorem Try.infoInt1 : (Try.prog.info? 3).map (·.size) = some 1 := by kernel_rfl

theorem Try.infoWrite : (Try.prog.info? 50).map (fun i => (i.zero, i.size, i.bytes)) = some (some (.agg #[.int .i64 0, .int .i64 0]), 2, 16) := by kernel_rfl

theorem ret_int {k : IntKind} {a b : Int} (h : a = b) : Ending.returned (.int k a) = .returned (.int k b) := by rw [h]

theorem ret_bool {a b : Bool} (h : a = b) : Ending.returned (.bool a) = .returned (.bool b) := by rw [h]

theorem gives_ret {w w' : World} {v u : Value} (he : Ext w w') (h : v = u) : ∃ r, Ending.returned v = .returned r ∧ Ext w w' ∧ r = u := ⟨v, rfl, he, h⟩

/-- A contract of a call that only makes memory beside a known answer. -/
theorem Calls.exts {P : Program} {f : FuncId} {args : Array Value} {w : World} {v : Value} {Q : Ending → World → Prop} (h : Calls P f args w fun e w' => e = .returned v ∧ Ext w w') (k : ∀ w', Ext w w' → Q (.returned v) w') : Calls P f args w Q :=
  h.mono fun e w' ⟨he, hx⟩ => by rw [he]; exact k w' hx

theorem gives_exts {P : Program} {f : FuncId} {args : Array Value} {w : World} {v : Value} (h : Calls P f args w fun e w' => e = .returned v ∧ Ext w w') : Gives P f args w (fun r _ => r = v) :=
  Calls.mono h fun _ _ ⟨he, hx⟩ => ⟨v, he, hx, rfl⟩

theorem Try.infoWrite2 : (Try.prog.info? 50).map (fun i => (i.zero, i.size, i.bytes)) = some (some (.agg #[.int .i64 0, .int .i64 0]), 2, 16) := by kernel_rfl

theorem Try.infoWriteSz : (Try.prog.info? 50).map (·.size) = some 2 := by kernel_rfl

theorem Try.infoReply : (Try.prog.info? 28).map (fun i => (i.zero, i.size, i.bytes)) = some (some (.agg #[.int .i64 0, .int .i64 0]), 2, 16) := by kernel_rfl

theorem block_ext {w w1 : World} {o : Obj} (e : Ext (w.alloc o) w1) : w1.heap[w.heap.size]? = some o := by
  have := e.block w.heap.size (by simp)
  rw [this]
  exact heap_alloc_new w o

theorem cell_block {w : World} {b i : Nat} {cs : Array Value} {t : TypeId} {u : Value} (h : w.heap[b]? = some (.cells cs t (0, 0))) (hi : cs[i]? = some u) : w.cell? ⟨b, i, none⟩ = some u := by
  simp [World.cell?, h, hi]

theorem frozen_block {w : World} {b i : Nat} {cs : Array Value} {t : TypeId} (h : w.heap[b]? = some (.cells cs t (0, 0))) : w.frozen? ⟨b, i, none⟩ = false := by
  simp [World.frozen?, h]

theorem box_ext {w w1 : World} {t : TypeId} {u v : Value} (e : Ext (w.alloc (.cells #[u, v] t)) w1) :
    w1.cell? ⟨w.heap.size, 0, none⟩ = some u ∧ w1.cell? ⟨w.heap.size, 1, none⟩ = some v ∧ w1.frozen? ⟨w.heap.size, 0, none⟩ = false ∧ w1.frozen? ⟨w.heap.size, 1, none⟩ = false :=
  ⟨cell_block (block_ext e) rfl, cell_block (block_ext e) rfl, frozen_block (block_ext e), frozen_block (block_ext e)⟩

theorem box_at {w w1 : World} {t : TypeId} {u v : Value} (b : Nat) (e : Ext (w.alloc (.cells #[u, v] t)) w1) (hb : w.heap.size = b) :
    w1.cell? ⟨b, 0, none⟩ = some u ∧ w1.cell? ⟨b, 1, none⟩ = some v ∧ w1.frozen? ⟨b, 0, none⟩ = false ∧ w1.frozen? ⟨b, 1, none⟩ = false := by
  subst hb; exact box_ext e

theorem box_of {wx w1 : World} {b : Nat} {t : TypeId} {u v : Value} (h : wx.heap[b]? = some (.cells #[u, v] t (0, 0))) (e : Ext wx w1) :
    w1.cell? ⟨b, 0, none⟩ = some u ∧ w1.cell? ⟨b, 1, none⟩ = some v ∧ w1.frozen? ⟨b, 0, none⟩ = false ∧ w1.frozen? ⟨b, 1, none⟩ = false := by
  have hb : b < wx.heap.size := (Array.getElem?_eq_some_iff.1 h).1
  have h2 : w1.heap[b]? = some (.cells #[u, v] t (0, 0)) := by rw [e.block b hb]; exact h
  exact ⟨cell_block h2 rfl, cell_block h2 rfl, frozen_block h2, frozen_block h2⟩

theorem heap_drew_new (w : World) (o : Obj) (nq : Nat) : ((w.alloc o).drewN nq).heap[w.heap.size]? = some o := heap_alloc_new w o

theorem heap_set_new {w : World} {o : Obj} {g i nq : Nat} {x : Value} (hg : g < w.heap.size) : (((w.alloc o).drewN nq).setCell ⟨g, i, none⟩ x).heap[w.heap.size]? = some o := by
  rw [Below.heap_setCell _ _ _ _ (fun e => by simp only [] at e; omega)]
  exact heap_alloc_new w o

theorem grown_setCell (w : World) (b i : Nat) (x : Value) : w.grownBy (w.setCell ⟨b, i, none⟩ x) (some b) :=
  ⟨rfl, rfl, rfl, by simp, fun k _ hk => Below.heap_setCell w _ x k (fun e => hk (by simp [e]))⟩

theorem owns_setCell {w : World} {base e size n : Nat} {v : Value} {xs : List Value} (h : w.ownsRow base e size v n xs) {b : Nat} (hb : v.ownBlock ≠ some b) (i : Nat) (x : Value) : (w.setCell ⟨b, i, none⟩ x).ownsRow base e size v n xs :=
  h.kept (grown_setCell w b i x) (.inr hb)

theorem grown_new {w w1 : World} {row : Option Nat} (h : w.grownBy w1 row) {b : Nat} (hb : w.heap.size ≤ b) (i : Nat) (x : Value) : w.grownBy (w1.setCell ⟨b, i, none⟩ x) row :=
  ⟨h.os, h.tape, h.output, by simpa using h.size, fun k hk hne => by rw [Below.heap_setCell w1 _ x k (fun e => by subst e; exact absurd hk (Nat.not_lt.2 hb))]; exact h.block k hk hne⟩

/-- A row of one kind is no box of another. -/
theorem own_ne {w : World} {base e size n b : Nat} {v : Value} {xs : List Value} {cs : Array Value} {t : TypeId} (h : w.ownsRow base e size v n xs) (hb : w.heap[b]? = some (.cells cs t (0, 0))) (hne : e ≠ t) : v.ownBlock ≠ some b := by
  intro he
  rcases h.2 with ⟨rfl, _⟩ | ⟨k, cap, cur, rfl, _, hk, _⟩
  · cases he
  · have e2 : k = b := by simpa [Value.ownBlock] using he
    subst e2
    rw [hb] at hk
    simp at hk
    exact hne hk.2.symm

theorem func_mk : ∀ (fn : Fn) (first cap : Array Value) (w : World), (Instr.makeFunc fn first cap).run Try.prog w = .ok (.func fn first cap) w := fun _ _ _ _ => rfl

theorem cell_lt {w : World} {p : Addr} {v : Value} (h : w.cell? p = some v) : p.block < w.heap.size := by
  by_cases hb : p.block < w.heap.size
  · exact hb
  · simp [World.cell?, Array.getElem?_eq_none (Nat.le_of_not_lt hb)] at h

/-- The slice u reads as l, and lies in memory of its own, from base on. -/
def Has (base : Nat) (w : World) (u : Value) (l : List (Int × Int)) : Prop := ∃ x m lo, w.ownsRow base 50 2 x m (cells2 lo) ∧ ∀ w2 : World, w2.ownsRow base 50 2 x m (cells2 lo) → Writes w2 u l

theorem owns_base {w : World} {b1 b2 e size n : Nat} {v : Value} {xs : List Value} (h : w.ownsRow b1 e size v n xs) (hle : b2 ≤ b1) : w.ownsRow b2 e size v n xs := by
  obtain ⟨h1, h2⟩ := h
  refine ⟨h1, ?_⟩
  rcases h2 with h | ⟨g, cap, cur, rfl, hb, hr⟩
  · exact .inl h
  · exact .inr ⟨g, cap, cur, rfl, Nat.le_trans hle hb, hr⟩

theorem Has.writes {base : Nat} {w : World} {u : Value} {l : List (Int × Int)} (h : Has base w u l) : Writes w u l := by
  obtain ⟨x, m, lo, h1, h2⟩ := h
  exact h2 w h1

theorem Has.ext {base : Nat} {w w' : World} {u : Value} {l : List (Int × Int)} (h : Has base w u l) (he : Ext w w') : Has base w' u l := by
  obtain ⟨x, m, lo, h1, h2⟩ := h
  exact ⟨x, m, lo, owns_ext h1 he, h2⟩

theorem Has.nil (base : Nat) (w : World) : Has base w (.slice none 0 0) [] := ⟨.slice none 0 0, 0, [], World.ownsRow_nil _ _ _ _, fun w2 _ => writes_nil w2⟩

theorem Has.set {base : Nat} {w : World} {u : Value} {l : List (Int × Int)} (h : Has base w u l) {b : Nat} (hb : b < base) (i : Nat) (y : Value) : Has base (w.setCell ⟨b, i, none⟩ y) u l := by
  obtain ⟨x, m, lo, h1, h2⟩ := h
  exact ⟨x, m, lo, owns_setCell h1 (fun e => by have := (h1.lt b e).1; omega) i y, h2⟩

/-- .. at whatever lower bound. -/
theorem Has.low {b1 b2 : Nat} {w : World} {u : Value} {l : List (Int × Int)} (h : Has b1 w u l) (hle : b2 ≤ b1) : Has b2 w u l := by
  obtain ⟨x, m, lo, h1, h2⟩ := h
  rcases h1.2 with ⟨rfl, rfl⟩ | ⟨g, cap, cur, rfl, hb, hr⟩
  · exact ⟨_, _, lo, owns_base h1 hle, fun w2 h3 => h2 w2 ⟨h3.1, .inl ⟨rfl, rfl⟩⟩⟩
  · refine ⟨_, _, lo, owns_base h1 hle, fun w2 h3 => h2 w2 ⟨h3.1, ?_⟩⟩
    rcases h3.2 with ⟨e, _⟩ | ⟨g', cap', cur', e, hb', hr'⟩
    · cases e
    · have e2 : g = g' ∧ cap = cap' := by simpa using e
      obtain ⟨rfl, rfl⟩ := e2
      exact .inr ⟨g, cap, cur', rfl, hb, hr'⟩

/-- Rows of two kinds are two rows. -/
theorem own_types {w : World} {b1 b2 e1 e2 s1 s2 n m : Nat} {x y : Value} {xs ys : List Value} (h1 : w.ownsRow b1 e1 s1 x n xs) (h2 : w.ownsRow b2 e2 s2 y m ys) (hne : e1 ≠ e2) : x.ownBlock = none ∨ x.ownBlock ≠ y.ownBlock := by
  rcases h2.2 with ⟨rfl, _⟩ | ⟨k, cap, cur, rfl, _, hk, _⟩
  · cases hx : x.ownBlock with
    | none => exact .inl rfl
    | some j => exact .inr (by simp [Value.ownBlock])
  · exact .inr (own_ne h1 hk hne)

theorem Has.grown {base : Nat} {w w' : World} {u s : Value} {l : List (Int × Int)} {b e n : Nat} {ys : List Value} (h : Has base w u l) (hs : w.ownsRow b e 2 s n ys) (hne : (50 : Nat) ≠ e) (hg : w.grownBy w' s.ownBlock) : Has base w' u l := by
  obtain ⟨x, m, lo, h1, h2⟩ := h
  exact ⟨x, m, lo, h1.kept hg (own_types h1 hs hne), h2⟩

theorem wpM_norm {P : Program} {w0 : World} {ops : Array Oper} {Q : Act → (Tmp → World → Prop) → Prop} {l : List Oper} {ks : List Kind} {a : Act} {F : Tmp → World → Prop} (h : ∀ K : Act → Prop, (∀ a', wpM P w0 ops Q l ks a' F → K a') → K a) : wpM P w0 ops Q l ks a F := h _ (fun _ h => h)

theorem stop_at {p : Prop} (h : Hid p) : p := h.out

theorem writes_lit1 {w : World} (o : Obj) (e : TypeId) (l : List (Int × Int)) (cs : Array Value) (n : Nat) (hc : cs.toList = cells2 l) (hn : l.length = n) (hm : n ≤ maxLen) : Writes ((w.alloc o).alloc (.cells cs e)) (.slice (some ⟨w.heap.size + 1, 0, none⟩) n n) l := by
  have := writes_lit (w := w.alloc o) e l cs n hc hn hm
  simpa using this

theorem monoHas (base : Nat) (l : List (Int × Int)) : ∀ v, MonoP (fun w => Has base w v l) := fun _ _ _ he h => Has.ext h he

end Go.Proofs.Ytdmipnnfoolelac

namespace Go.Proofs.Ytdmipnnfoolelac
open Go.RowKit Go.Mk

end Go.Proofs.Ytdmipnnfoolelac

namespace Go.Proofs.Ytdmipnnfoolelac
open Go.RowKit Go.Mk

set_option maxHeartbeats 1000000 in
theorem refWrong_any (v : Value) (xs : List Int) (w : World) (hv : Ints w v xs) :
    Calls Try.prog 48 #[v] w fun e w' => e = .returned (I (wrongOf xs)) ∧ ∃ n, w' = w.drewN n := by
  obtain ⟨ao, cap, rfl, h1, h2, h3⟩ := hv.form
  unfold maxLen at h2
  by_cases hl : xs.length = 11
  · obtain ⟨b, off, rfl, hc⟩ := h3 0 (by omega)
    have H3 : Hid (∀ k, k < 11 → w.cell? ⟨b, off + k, none⟩ = some (I (xs.getD k 0))) := fun k hk => by
      obtain ⟨b', off', he, hc⟩ := h3 k (by omega)
      simp only [Option.some.injEq, Addr.mk.injEq, and_true] at he
      obtain ⟨rfl, rfl⟩ := he
      exact hc
    clear h3
    have HL : Hid (xs.length = 11) := hl
    rw [hl] at hv h1 ⊢
    clear hl
    simp only [Nat.add_zero] at hc
    have HW : Hid (wrongOf xs = if ¬ (0 ≤ xs.getD 0 0 ∧ xs.getD 0 0 ≤ 5) then 3 else wrongIn xs (xs.getD 0 0).toNat 0) := by unfold Hid wrongOf; rw [if_neg (by simp [HL.out])]
    generalize hX : xs.getD 0 0 = x at hc HW
    clear hX
    by_cases hx : 0 ≤ x ∧ x ≤ 5
    · obtain ⟨x0, x5⟩ := hx
      go_enter Try.func48, Try.ntmps48
      go_wp2
      go_loopw [3, 4] (fun i _ wr => ∃ k : Nat, (k : Int) ≤ x ∧ i = I (1 + 2 * k) ∧ wrongIn xs x.toNat 0 = wrongIn xs (x.toNat - k) k ∧ ∃ n, wr = w.drewN n) (fun i _ _ => 20 - (intOf i).toNat)
      case atStart => exact ⟨0, by omega, rfl, rfl, 0, rfl⟩
      case round =>
        obtain ⟨k, hk, rfl, hf, n, rfl⟩ := hrel
        have HF : Hid (wrongIn xs x.toNat 0 = wrongIn xs (x.toNat - k) k) := hf
        clear hf
        by_cases hlt : (k : Int) < x
        · have hc1 := H3.out (1 + 2 * k) (by omega)
          have hc2 := H3.out (1 + 2 * k + 1) (by omega)
          have HA : Hid (wrongAt xs k = if ¬ (1 ≤ xs.getD (1 + 2 * k) 0 ∧ xs.getD (1 + 2 * k) 0 ≤ 255) ∨ ¬ (-1073741824 ≤ xs.getD (1 + 2 * k + 1) 0 ∧ xs.getD (1 + 2 * k + 1) 0 ≤ 1073741824) then 3
            else if 0 ≤ findIn xs (xs.getD (1 + 2 * k) 0) k 0 then 7 else 0) := by unfold Hid wrongAt; rw [show 2 + 2 * k = 1 + 2 * k + 1 by omega]
          generalize hY : xs.getD (1 + 2 * k) 0 = y at hc1 HA
          generalize hZ : xs.getD (1 + 2 * k + 1) 0 = z at hc2 HA
          clear hY hZ
          by_cases hy1 : y < 1
          · go_wp2
            go_ret
            exact ⟨ret_int (by rw [HW.out, if_neg (by omega), HF.out, wrongIn_bad hlt (by rw [HA.out, if_pos (by omega)]; rfl), HA.out, if_pos (by omega)]), _, rfl⟩
          by_cases hy2 : 255 < y
          · go_wp2
            go_ret
            exact ⟨ret_int (by rw [HW.out, if_neg (by omega), HF.out, wrongIn_bad hlt (by rw [HA.out, if_pos (by omega)]; rfl), HA.out, if_pos (by omega)]), _, rfl⟩
          by_cases hz1 : z < -1073741824
          · go_wp2
            go_ret
            exact ⟨ret_int (by rw [HW.out, if_neg (by omega), HF.out, wrongIn_bad hlt (by rw [HA.out, if_pos (by omega)]; rfl), HA.out, if_pos (by omega)]), _, rfl⟩
          by_cases hz2 : 1073741824 < z
          · go_wp2
            go_ret
            exact ⟨ret_int (by rw [HW.out, if_neg (by omega), HF.out, wrongIn_bad hlt (by rw [HA.out, if_pos (by omega)]; rfl), HA.out, if_pos (by omega)]), _, rfl⟩
          have HA' : Hid (wrongAt xs k = if 0 ≤ findIn xs y k 0 then 7 else 0) := by unfold Hid; rw [HA.out, if_neg (by omega)]
          clear HA
          go_wp2
          go_loopw [4] (fun j wr => ∃ m : Nat, m ≤ k ∧ j = I (1 + 2 * m) ∧ findIn xs y k 0 = findIn xs y (k - m) m ∧ ∃ n, wr = w.drewN n) (fun j _ => 20 - (intOf j).toNat)
          case atStart => exact ⟨0, by omega, rfl, rfl, n, rfl⟩
          case round =>
            obtain ⟨m, hm, rfl, hg, n', rfl⟩ := hrel
            have HG : Hid (findIn xs y k 0 = findIn xs y (k - m) m) := hg
            clear hg
            by_cases hmk : m < k
            · have hcm := H3.out (1 + 2 * m) (by omega)
              generalize hU : xs.getD (1 + 2 * m) 0 = u at hcm
              have HU : Hid (xs.getD (1 + 2 * m) 0 = u) := hU
              clear hU
              have b1 : (0 : Int) ≤ 1 + 2 * (m : Int) := by omega
              have b2 : 1 + 2 * (m : Int) < 11 := by omega
              have b3 : (1 + 2 * (m : Int)).toNat = 1 + 2 * m := by omega
              have b4 : (0 : Int) ≤ 1 + 2 * (k : Int) := by omega
              have b5 : 1 + 2 * (k : Int) < 11 := by omega
              have b6 : (1 + 2 * (k : Int)).toNat = 1 + 2 * k := by omega
              by_cases huy : u = y
              · have hb : (u == y) = true := by simp [huy]
                have HUY : Hid (u = y) := huy
                clear huy
                go_wp2_with fail
                go_quiet (fail)
                go_wp2
                go_ret
                have hfk : findIn xs y k 0 = (m : Int) := by
                  rw [HG.out, show k - m = (k : Int).toNat - m by omega, findIn_hit (n := (k : Int)) (by omega) (by rw [HU.out]; exact hb)]
                exact ⟨ret_int (by rw [HW.out, if_neg (by omega), HF.out, wrongIn_bad hlt (by rw [HA'.out, hfk, if_pos (by omega)]; rfl), HA'.out, hfk, if_pos (by omega)]), _, World.drewN_drewN _ _ _⟩
              · have hb : (u == y) = false := by simpa using huy
                clear huy
                go_wp2_with fail
                go_quiet (fail)
                go_wp2
                go_roundw
                case rel => exact ⟨m + 1, by omega, by go_num, by rw [HG.out, show k - m = (k : Int).toNat - m by omega, findIn_miss (n := (k : Int)) (by omega) (by rw [HU.out]; exact hb)]; rfl, _, rfl⟩
                case measure => simp [intOf]; omega
            · go_wp2
              have hfk : findIn xs y k 0 = -1 := by
                rw [HG.out, show k - m = 0 by omega]; rfl
              have hwk : wrongAt xs k = 0 := by rw [HA'.out, hfk, if_neg (by omega)]
              go_roundw
              case rel => exact ⟨k + 1, by omega, by go_num, by rw [HF.out, wrongIn_good hlt (by rw [hwk]; rfl)], _, rfl⟩
              case measure => simp [intOf]; omega
        · go_wp2
          go_ret
          exact ⟨ret_int (by rw [HW.out, if_neg (by omega), HF.out, wrongIn_end (by omega)]), _, rfl⟩
    · by_cases hx0 : x < 0
      all_goals
        go_enter Try.func48, Try.ntmps48
        go_wp2
        go_ret
        exact ⟨ret_int (by rw [HW.out, if_pos (by omega)]), 0, rfl⟩
  · have hne : (((xs.length : Int)) != 11) = true := by rw [bne_iff_ne]; omega
    go_enter Try.func48, Try.ntmps48
    go_wp2
    go_ret
    exact ⟨ret_int (by unfold wrongOf; rw [if_pos hl]), 0, rfl⟩

set_option maxHeartbeats 400000 in
theorem sameInts_any (u v : Value) (xs ys : List Int) (w : World) (hu : Ints w u xs) (hv : Ints w v ys) :
    Calls Try.prog 35 #[u, v] w fun e w' => e = .returned (.bool (decide (xs = ys))) ∧ ∃ n, w' = w.drewN n := by
  obtain ⟨ao, cap, rfl, h1, h2, h3⟩ := hu.form
  obtain ⟨bo, cap', rfl, g1, g2, g3⟩ := hv.form
  unfold maxLen at h2 g2
  clear hu hv
  by_cases hl : xs.length = ys.length
  · have hne : (((xs.length : Int)) != (ys.length : Int)) = false := by rw [bne_eq_false_iff_eq]; omega
    have HL : Hid (xs.length = ys.length) := hl
    clear hl
    go_enter Try.func35, Try.ntmps35
    go_wp2
    go_loopw [13] (fun i wr => ∃ k : Nat, k ≤ xs.length ∧ i = I k ∧ xs.take k = ys.take k ∧ ∃ n, wr = w.drewN n) (fun i _ => xs.length - (intOf i).toNat)
    case atStart => exact ⟨0, by omega, rfl, rfl, 0, rfl⟩
    case round =>
      obtain ⟨k, hk, rfl, hf, n, rfl⟩ := hrel
      have HF : Hid (xs.take k = ys.take k) := hf
      clear hf
      by_cases hlt : k < xs.length
      · have hlt' : k < ys.length := by have := HL.out; omega
        obtain ⟨b, off, rfl, hc⟩ := h3 k hlt
        obtain ⟨b', off', rfl, hc'⟩ := g3 k hlt'
        clear h3 g3
        generalize hX : xs.getD k 0 = x at hc
        generalize hY : ys.getD k 0 = y at hc'
        have HX : Hid (xs[k]? = some x) := by unfold Hid; rw [← hX]; simp [hlt]
        have HY : Hid (ys[k]? = some y) := by unfold Hid; rw [← hY]; simp [hlt']
        clear hX hY
        have b1 : (0 : Int) ≤ (k : Int) := by omega
        have b2 : (k : Int) < (xs.length : Int) := by omega
        have b3 : (k : Int) < (ys.length : Int) := by omega
        by_cases hxy : x = y
        · have hb : (x != y) = false := by simp [hxy]
          have HXY : Hid (x = y) := hxy
          clear hxy
          go_wp2_with fail
          go_quiet (fail)
          go_wp2
          go_roundw
          case rel => exact ⟨k + 1, by omega, by go_num, by rw [List.take_add_one, List.take_add_one, HF.out, HX.out, HY.out, HXY.out], _, rfl⟩
          case measure => simp [intOf]; omega
        · have hb : (x != y) = true := by simpa using hxy
          have HXY : Hid (x ≠ y) := hxy
          clear hxy
          go_wp2_with fail
          go_quiet (fail)
          go_wp2
          go_ret
          refine ⟨ret_bool ?_, _, World.drewN_drewN _ _ _⟩
          symm
          rw [decide_eq_false_iff_not]
          intro e
          have h := HX.out
          rw [e, HY.out] at h
          exact HXY.out (Option.some.inj h).symm
      · go_wp2
        go_ret
        refine ⟨ret_bool ?_, _, rfl⟩
        symm
        rw [decide_eq_true_eq]
        have h := HF.out
        rwa [List.take_of_length_le (by omega), List.take_of_length_le (by have := HL.out; omega)] at h
  · have hne : (((xs.length : Int)) != (ys.length : Int)) = true := by rw [bne_iff_ne]; omega
    go_enter Try.func35, Try.ntmps35
    go_wp2
    go_ret
    refine ⟨ret_bool ?_, 0, rfl⟩
    symm
    rw [decide_eq_false_iff_not]
    intro e
    exact hl (by rw [e])

end Go.Proofs.Ytdmipnnfoolelac

namespace Go.Proofs.Ytdmipnnfoolelac
open Go.RowKit Go.Mk

set_option maxHeartbeats 1000000 in
theorem refSet_own (v u : Value) (xs : List Int) (l : List (Int × Int)) (w : World) (hv : Ints w v xs) (hu : Writes w u l) (hr : xs.length * 8 ≤ 140737488355328) (hr2 : l.length * 16 ≤ 140737488355328) :
    Gives Try.prog 57 #[v, u] w fun r w' => ∃ n, w'.ownsRow w.heap.size 3 1 r n ((setAll xs l).map I) := by
  unfold Gives
  obtain ⟨i0, hi, hz0, hz1, hz2⟩ := info_parts Try.infoInt
  obtain ⟨ao, cap, rfl, h1, h2, h3⟩ := hv.form
  obtain ⟨bo, cap', rfl, g1, g2, g3⟩ := hu.form
  unfold maxLen at h2 g2
  clear hv hu
  go_enter Try.func57, Try.ntmps57
  go_wp2
  go_loopw [5, 12] (fun o i wr => ∃ k : Nat, k ≤ xs.length ∧ i = I k ∧ wr.ownsRow w.heap.size 3 1 o k (((setAll xs l).take k).map I) ∧ Ext w wr) (fun _ i _ => xs.length - (intOf i).toNat)
  case atStart => exact ⟨0, by omega, rfl, World.ownsRow_nil _ _ _ _, Ext.refl _⟩
  case round =>
    obtain ⟨k, hk, rfl, hout, he⟩ := hrel
    by_cases hlt : k < xs.length
    · obtain ⟨b, off, rfl, hc⟩ := h3 k hlt
      have hd := he.cell hc
      clear hc h3
      have HT : Hid ((setAll xs l).take (k + 1) = (setAll xs l).take k ++ [lastAt l k (xs.getD k 0)]) := setAll_take xs l k hlt
      generalize xs.getD k 0 = x at hd HT
      go_wp2
      go_loopw [7, 19] (fun n j wr => ∃ m : Nat, m ≤ l.length ∧ j = I m ∧ n = I (lastAt (l.take m) k x) ∧ wr.ownsRow w.heap.size 3 1 u5 k (((setAll xs l).take k).map I) ∧ Ext w wr) (fun _ j _ => l.length - (intOf j).toNat)
      case atStart => exact ⟨0, by omega, rfl, rfl, hout, he⟩
      case round =>
        obtain ⟨m, hm, rfl, rfl, hout', he'⟩ := hrel
        clear hout he hd
        by_cases hml : m < l.length
        · obtain ⟨b', off', rfl, hc1, hc2⟩ := g3 m hml
          have hd1 := he'.cell hc1
          have hd2 := he'.cell hc2
          clear hc1 hc2 g3
          generalize hp : l.getD m (0, 0) = p at hd1 hd2
          have HP : Hid (l[m]? = some p) := by unfold Hid; rw [← hp]; simp [hml]
          clear hp
          obtain ⟨at_, n⟩ := p
          have HL : Hid (lastAt (l.take (m + 1)) k x = if at_ = (k : Int) then n else lastAt (l.take m) k x) := by
            unfold Hid; rw [List.take_add_one, HP.out]; exact lastAt_snoc _ _ _ _
          generalize lastAt (l.take m) k x = y at HL
          simp only [] at hd1 hd2
          by_cases hat : at_ = (k : Int)
          · have hb : (at_ == (k : Int)) = true := by simp [hat]
            have HA : Hid (at_ = (k : Int)) := hat
            clear hat
            go_wp2
            go_roundw
            case rel => exact ⟨m + 1, by omega, by go_num, by rw [HL.out, if_pos HA.out], hout'.alloc _, he'.alloc _⟩
            case measure => simp [intOf]; omega
          · have hb : (at_ == (k : Int)) = false := by simpa using hat
            have HA : Hid (¬ at_ = (k : Int)) := hat
            clear hat
            go_wp2
            go_roundw
            case rel => exact ⟨m + 1, by omega, by go_num, by rw [HL.out, if_neg HA.out], hout'.alloc _, he'.alloc _⟩
            case measure => simp [intOf]; omega
        · have e7 : lastAt (l.take m) k x = lastAt l k x := by rw [List.take_of_length_le (by omega)]
          rw [e7]
          clear g3 e7
          generalize lastAt l k x = y at HT ⊢
          have hsz := he'.size
          have hbl := hout'.lt
          go_wp2_with (at_builtin; refine wpList_append_row _ rfl _ _ 43 rfl w.heap.size 3 i0 (.int .i64 0) 1 8 Try.underlying43 hi hz0 hz1 hz2 rfl (by decide) _ _ _ rfl (hout'.alloc _) _ rfl 1 [I y] (ints_lit (l := [y]) _ _ 1 rfl rfl (by decide)) (mapI_one [y]) (by omega) (by decide) (by simp; omega) ?_; intro o' w3 ho hg)
          have he3 : Ext w w3 := (he'.alloc _).grown hg (fun k hk => (hbl k hk).1)
          clear hg
          go_wp2
          go_roundw
          case rel =>
            refine ⟨k + 1, by omega, by go_num, ?_, he3⟩
            rw [HT.out, List.map_append]
            exact ho
          case measure => simp [intOf]; omega
    · go_wp2
      go_ret
      rw [List.take_of_length_le (by rw [length_setAll]; omega)] at hout
      exact ⟨_, rfl, he, _, hout⟩

theorem refSet_any (v u : Value) (xs : List Int) (l : List (Int × Int)) (w : World) (hv : Ints w v xs) (hu : Writes w u l) (hr : xs.length * 8 ≤ 140737488355328) (hr2 : l.length * 16 ≤ 140737488355328) :
    Gives Try.prog 57 #[v, u] w fun r w' => Ints w' r (setAll xs l) :=
  (refSet_own v u xs l w hv hu hr hr2).mono fun _ _ _ ⟨_, h⟩ => ints_of_owns h

set_option maxHeartbeats 400000 in
theorem sameWrites_any (u v : Value) (xs ys : List (Int × Int)) (w : World) (hu : Writes w u xs) (hv : Writes w v ys) :
    Calls Try.prog 46 #[u, v] w fun e w' => e = .returned (.bool (decide (xs = ys))) ∧ ∃ n, w' = w.drewN n := by
  obtain ⟨ao, cap, rfl, h1, h2, h3⟩ := hu.form
  obtain ⟨bo, cap', rfl, g1, g2, g3⟩ := hv.form
  unfold maxLen at h2 g2
  clear hu hv
  by_cases hl : xs.length = ys.length
  · have hne : (((xs.length : Int)) != (ys.length : Int)) = false := by rw [bne_eq_false_iff_eq]; omega
    have HL : Hid (xs.length = ys.length) := hl
    clear hl
    go_enter Try.func46, Try.ntmps46
    go_wp2
    go_loopw [13] (fun i wr => ∃ k : Nat, k ≤ xs.length ∧ i = I k ∧ xs.take k = ys.take k ∧ ∃ n, wr = w.drewN n) (fun i _ => xs.length - (intOf i).toNat)
    case atStart => exact ⟨0, by omega, rfl, rfl, 0, rfl⟩
    case round =>
      obtain ⟨k, hk, rfl, hf, n, rfl⟩ := hrel
      have HF : Hid (xs.take k = ys.take k) := hf
      clear hf
      by_cases hlt : k < xs.length
      · have hlt' : k < ys.length := by have := HL.out; omega
        obtain ⟨b, off, rfl, hc, hd⟩ := h3 k hlt
        obtain ⟨b', off', rfl, hc', hd'⟩ := g3 k hlt'
        clear h3 g3
        generalize hX : xs.getD k (0, 0) = x at hc hd
        generalize hY : ys.getD k (0, 0) = y at hc' hd'
        have HX : Hid (xs[k]? = some x) := by unfold Hid; rw [← hX]; simp [hlt]
        have HY : Hid (ys[k]? = some y) := by unfold Hid; rw [← hY]; simp [hlt']
        clear hX hY
        obtain ⟨x1, x2⟩ := x
        obtain ⟨y1, y2⟩ := y
        simp only [] at hc hd hc' hd'
        have b1 : (0 : Int) ≤ (k : Int) := by omega
        have b2 : (k : Int) < (xs.length : Int) := by omega
        have b3 : (k : Int) < (ys.length : Int) := by omega
        have hst : Try.prog.stoodInHeld 50 = false := by kernel_rfl
        have hgd : Try.prog.eqGuardType Try.prog.depth 50 = false := by kernel_rfl
        by_cases hx : x1 = y1
        · have hb1 : (x1 == y1) = true := by simp [hx]
          have HX1 : Hid (x1 = y1) := hx
          clear hx
          by_cases hy : x2 = y2
          · have hb2 : (x2 == y2) = true := by simp [hy]
            have HX2 : Hid (x2 = y2) := hy
            clear hy
            go_wp2_with fail
            go_quiet (fail)
            go_wp2
            go_roundw
            case rel => exact ⟨k + 1, by omega, by go_num, by rw [List.take_add_one, List.take_add_one, HF.out, HX.out, HY.out, HX1.out, HX2.out], _, rfl⟩
            case measure => simp [intOf]; omega
          · have hb2 : (x2 == y2) = false := by simpa using hy
            have HX2 : Hid (x2 ≠ y2) := hy
            clear hy
            go_wp2_with fail
            go_quiet (fail)
            go_wp2
            go_ret
            refine ⟨ret_bool ?_, _, World.drewN_drewN _ _ _⟩
            symm
            rw [decide_eq_false_iff_not]
            intro e
            have h := HX.out
            rw [e, HY.out] at h
            simp only [Option.some.injEq, Prod.mk.injEq] at h
            exact HX2.out h.2.symm
        · have hb1 : (x1 == y1) = false := by simpa using hx
          have HX1 : Hid (x1 ≠ y1) := hx
          clear hx
          go_wp2_with fail
          go_quiet (fail)
          go_wp2
          go_ret
          refine ⟨ret_bool ?_, _, World.drewN_drewN _ _ _⟩
          symm
          rw [decide_eq_false_iff_not]
          intro e
          have h := HX.out
          rw [e, HY.out] at h
          simp only [Option.some.injEq, Prod.mk.injEq] at h
          exact HX1.out h.1.symm
      · go_wp2
        go_ret
        refine ⟨ret_bool ?_, _, rfl⟩
        symm
        rw [decide_eq_true_eq]
        have h := HF.out
        rwa [List.take_of_length_le (by omega), List.take_of_length_le (by have := HL.out; omega)] at h
  · have hne : (((xs.length : Int)) != (ys.length : Int)) = true := by rw [bne_iff_ne]; omega
    go_enter Try.func46, Try.ntmps46
    go_wp2
    go_ret
    refine ⟨ret_bool ?_, 0, rfl⟩
    symm
    rw [decide_eq_false_iff_not]
    intro e
    exact hl (by rw [e])

end Go.Proofs.Ytdmipnnfoolelac

namespace Go.Proofs.Ytdmipnnfoolelac
open Go.RowKit Go.Mk

theorem sameInts_eq {u v : Value} {xs ys : List Int} {w : World} (e : xs = ys) (hu : Ints w u xs) (hv : Ints w v ys) : Gives Try.prog 35 #[u, v] w fun r _ => r = .bool true := by
  have := gives_drawn (sameInts_any u v xs ys w hu hv)
  rwa [decide_eq_true e] at this

theorem sameWrites_eq {u v : Value} {xs ys : List (Int × Int)} {w : World} (e : xs = ys) (hu : Writes w u xs) (hv : Writes w v ys) : Gives Try.prog 46 #[u, v] w fun r _ => r = .bool true := by
  have := gives_drawn (sameWrites_any u v xs ys w hu hv)
  rwa [decide_eq_true e] at this

theorem right_len {xs : List Int} (h : wrongOf xs = 0) : xs.length = 11 := by
  unfold wrongOf at h
  by_cases hl : xs.length = 11
  · exact hl
  · rw [if_pos hl] at h; cases h

end Go.Proofs.Ytdmipnnfoolelac

namespace Go.Proofs.Ytdmipnnfoolelac
open Go.RowKit Go.Mk

theorem setAll_one (xs : List Int) (l : List (Int × Int)) (p : Int × Int) : setAll (setAll xs l) [p] = setAll xs (l ++ [p]) := by
  rw [setAll_snoc]
  rfl

set_option maxHeartbeats 1000000 in
theorem refSet2_any (v u : Value) (xs : List Int) (l : List (Int × Int)) (w : World) (hv : Ints w v xs) (hu : Writes w u l) (hr : xs.length * 8 ≤ 140737488355328) :
    Gives Try.prog 49 #[v, u] w fun r w' => Ints w' r (setAll xs l) := by
  unfold Gives
  obtain ⟨bo, cap', rfl, g1, g2, g3⟩ := hu.form
  unfold maxLen at g2
  clear hu
  go_enter Try.func49, Try.ntmps49
  go_wp2
  go_loopw [0, 9] (fun cv i wr => ∃ k : Nat, k ≤ l.length ∧ i = I k ∧ Ints wr cv (setAll xs (l.take k)) ∧ Ext w wr) (fun _ i _ => l.length - (intOf i).toNat)
  case atStart => exact ⟨0, by omega, rfl, hv, Ext.refl _⟩
  case round =>
    obtain ⟨k, hk, rfl, hc, he⟩ := hrel
    clear hv
    by_cases hlt : k < l.length
    · obtain ⟨b, off, rfl, c1, c2⟩ := g3 k hlt
      replace c1 := he.cell c1
      replace c2 := he.cell c2
      have HT : Hid (setAll xs (l.take (k + 1)) = setAll (setAll xs (l.take k)) [l.getD k (0, 0)]) := by
        unfold Hid
        rw [setAll_one, List.take_add_one, List.getElem?_eq_getElem hlt, List.getD_eq_getElem?_getD, List.getElem?_eq_getElem hlt]
        rfl
      generalize l.getD k (0, 0) = p at *
      obtain ⟨p1, p2⟩ := p
      simp only [] at c1 c2
      have hlen : (setAll xs (l.take k)).length * 8 ≤ 140737488355328 := by rw [length_setAll]; exact hr
      generalize setAll xs (l.take k) = ys at *
      clear g3
      go_wp2_with fail
      refine (refSet_any u0 _ ys [(p1, p2)] _ (hc.ext (((Ext.refl wr).alloc _).alloc _)) (writes_lit1 _ _ [(p1, p2)] _ 1 rfl rfl (by decide)) hlen (by simp)).to fun r w2 he2 hr2 => ?_
      clear c1 c2
      go_wp2
      go_roundw
      case rel => exact ⟨k + 1, by omega, by go_num, by rw [HT.out]; exact hr2, he.trans ((((Ext.refl wr).alloc _).alloc _).trans he2)⟩
      case measure => simp [intOf]; omega
    · go_wp2
      go_ret
      rw [List.take_of_length_le (by omega)] at hc
      exact ⟨_, rfl, he, hc⟩

end Go.Proofs.Ytdmipnnfoolelac

namespace Go.Proofs.Ytdmipnnfoolelac
open Go.RowKit Go.Mk

/-- A box of four. -/
theorem box4 {w : World} {b : Nat} {t : TypeId} {u v x y : Value} (h : w.heap[b]? = some (.cells #[u, v, x, y] t (0, 0))) :
    w.cell? ⟨b, 0, none⟩ = some u ∧ w.cell? ⟨b, 1, none⟩ = some v ∧ w.cell? ⟨b, 2, none⟩ = some x ∧ w.cell? ⟨b, 3, none⟩ = some y ∧ w.frozen? ⟨b, 0, none⟩ = false ∧ w.frozen? ⟨b, 1, none⟩ = false ∧ w.frozen? ⟨b, 2, none⟩ = false ∧ w.frozen? ⟨b, 3, none⟩ = false :=
  ⟨cell_block h rfl, cell_block h rfl, cell_block h rfl, cell_block h rfl, frozen_block h, frozen_block h, frozen_block h, frozen_block h⟩

theorem block_of {a w : World} {b : Nat} {o : Obj} (h : a.heap[b]? = some o) (e : Ext a w) : w.heap[b]? = some o := by
  rw [e.block b (Array.getElem?_eq_some_iff.1 h).1]; exact h

/-- .. that has been written. -/
theorem set4 {w : World} {b : Nat} {t : TypeId} {p q r s : Value} (h : w.heap[b]? = some (.cells #[p, q, r, s] t (0, 0))) (u v x y : Value) :
    ((((w.setCell ⟨b, 0, none⟩ u).setCell ⟨b, 1, none⟩ v).setCell ⟨b, 2, none⟩ x).setCell ⟨b, 3, none⟩ y).heap[b]? = some (.cells #[u, v, x, y] t (0, 0)) := by
  have h1 := heap_setCell_same _ _ 0 _ _ u h
  have h2 := heap_setCell_same _ _ 1 _ _ v h1
  have h3 := heap_setCell_same _ _ 2 _ _ x h2
  have h4 := heap_setCell_same _ _ 3 _ _ y h3
  simpa using h4
theorem ext_set4 {a w : World} (h : Ext a w) {b : Nat} (hb : a.heap.size ≤ b) (u v x y : Value) : Ext a ((((w.setCell ⟨b, 0, none⟩ u).setCell ⟨b, 1, none⟩ v).setCell ⟨b, 2, none⟩ x).setCell ⟨b, 3, none⟩ y) :=
  (((h.setCell hb u).setCell hb v).setCell hb x).setCell hb y
theorem first_block {w w2 : World} {o o' : Obj} (e : Ext ((w.alloc o).alloc o') w2) : w2.heap[w.heap.size]? = some o := by
  refine block_of ?_ e
  exact block_of (heap_alloc_new w o) ((Ext.refl _).alloc o')

theorem second_block {w w2 : World} {o o' : Obj} (e : Ext ((w.alloc o).alloc o') w2) : w2.heap[w.heap.size + 1]? = some o' := by
  refine block_of ?_ e
  have := heap_alloc_new (w.alloc o) o'
  simpa using this

/-- A box of six. -/
theorem box6 {w : World} {b : Nat} {t : TypeId} {x0 x1 x2 x3 x4 x5 : Value} (h : w.heap[b]? = some (.cells #[x0, x1, x2, x3, x4, x5] t (0, 0))) :
    (w.cell? ⟨b, 0, none⟩ = some x0 ∧ w.cell? ⟨b, 1, none⟩ = some x1 ∧ w.cell? ⟨b, 2, none⟩ = some x2 ∧ w.cell? ⟨b, 3, none⟩ = some x3 ∧ w.cell? ⟨b, 4, none⟩ = some x4 ∧ w.cell? ⟨b, 5, none⟩ = some x5) ∧
      w.frozen? ⟨b, 0, none⟩ = false ∧ w.frozen? ⟨b, 1, none⟩ = false ∧ w.frozen? ⟨b, 2, none⟩ = false ∧ w.frozen? ⟨b, 3, none⟩ = false ∧ w.frozen? ⟨b, 4, none⟩ = false ∧ w.frozen? ⟨b, 5, none⟩ = false :=
  ⟨⟨cell_block h rfl, cell_block h rfl, cell_block h rfl, cell_block h rfl, cell_block h rfl, cell_block h rfl⟩, frozen_block h, frozen_block h, frozen_block h, frozen_block h, frozen_block h, frozen_block h⟩

theorem set6 {w : World} {b : Nat} {t : TypeId} {p0 p1 p2 p3 p4 p5 : Value} (h : w.heap[b]? = some (.cells #[p0, p1, p2, p3, p4, p5] t (0, 0))) (x0 x1 x2 x3 x4 x5 : Value) :
    ((((((w.setCell ⟨b, 0, none⟩ x0).setCell ⟨b, 1, none⟩ x1).setCell ⟨b, 2, none⟩ x2).setCell ⟨b, 3, none⟩ x3).setCell ⟨b, 4, none⟩ x4).setCell ⟨b, 5, none⟩ x5).heap[b]? = some (.cells #[x0, x1, x2, x3, x4, x5] t (0, 0)) := by
  have h1 := heap_setCell_same _ _ 0 _ _ x0 h
  have h2 := heap_setCell_same _ _ 1 _ _ x1 h1
  have h3 := heap_setCell_same _ _ 2 _ _ x2 h2
  have h4 := heap_setCell_same _ _ 3 _ _ x3 h3
  have h5 := heap_setCell_same _ _ 4 _ _ x4 h4
  have h6 := heap_setCell_same _ _ 5 _ _ x5 h5
  simpa using h6

theorem ext_set6 {a w : World} (h : Ext a w) {b : Nat} (hb : a.heap.size ≤ b) (x0 x1 x2 x3 x4 x5 : Value) :
    Ext a ((((((w.setCell ⟨b, 0, none⟩ x0).setCell ⟨b, 1, none⟩ x1).setCell ⟨b, 2, none⟩ x2).setCell ⟨b, 3, none⟩ x3).setCell ⟨b, 4, none⟩ x4).setCell ⟨b, 5, none⟩ x5) :=
  (((((h.setCell hb x0).setCell hb x1).setCell hb x2).setCell hb x3).setCell hb x4).setCell hb x5

/-- A box of two. -/
theorem box2 {w : World} {b : Nat} {t : TypeId} {u v : Value} (h : w.heap[b]? = some (.cells #[u, v] t (0, 0))) : w.cell? ⟨b, 0, none⟩ = some u ∧ w.cell? ⟨b, 1, none⟩ = some v ∧ w.frozen? ⟨b, 0, none⟩ = false ∧ w.frozen? ⟨b, 1, none⟩ = false :=
  ⟨cell_block h rfl, cell_block h rfl, frozen_block h, frozen_block h⟩
theorem set2 {w : World} {b : Nat} {t : TypeId} {p q : Value} (h : w.heap[b]? = some (.cells #[p, q] t (0, 0))) (u v : Value) : ((w.setCell ⟨b, 0, none⟩ u).setCell ⟨b, 1, none⟩ v).heap[b]? = some (.cells #[u, v] t (0, 0)) := by
  have h1 := heap_setCell_same _ _ 0 _ _ u h
  have h2 := heap_setCell_same _ _ 1 _ _ v h1
  simpa using h2
theorem ext_set2 {a w : World} (h : Ext a w) {b : Nat} (hb : a.heap.size ≤ b) (u v : Value) : Ext a ((w.setCell ⟨b, 0, none⟩ u).setCell ⟨b, 1, none⟩ v) := (h.setCell hb u).setCell hb v

theorem block_set {w : World} {b b' i : Nat} {x : Value} {o : Obj} (h : w.heap[b]? = some o) (hne : b ≠ b') : (w.setCell ⟨b', i, none⟩ x).heap[b]? = some o := by
  rw [Below.heap_setCell w _ x b hne]
  exact h

/-- A new box. -/
def BoxC (base : Nat) (t : TypeId) (cs : Array Value) (v : Value) (w : World) : Prop := ∃ b, v = .pointer (some ⟨b, 0, none⟩) ∧ base ≤ b ∧ w.heap[b]? = some (.cells cs t (0, 0))

theorem monoBoxC (base : Nat) (t : TypeId) (cs : Array Value) : ∀ v, MonoP (BoxC base t cs v) := fun _ _ _ he ⟨b, e, h1, h2⟩ => ⟨b, e, h1, by rw [he.block b (Array.getElem?_eq_some_iff.1 h2).1]; exact h2⟩

theorem boxC_new {w : World} {base : Nat} {t : TypeId} {cs : Array Value} (h : base ≤ w.heap.size) : BoxC base t cs (.pointer (some ⟨w.heap.size, 0, none⟩)) (w.alloc (.cells cs t)) := ⟨_, rfl, h, heap_alloc_new _ _⟩

end Go.Proofs.Ytdmipnnfoolelac

namespace Go.Proofs.Ytdmipnnfoolelac
open Go.RowKit Go.Mk

set_option maxHeartbeats 1000000 in
theorem refSet2_keeps (v u : Value) (xs : List Int) (l : List (Int × Int)) (w : World) (A : Nat → Prop) (hv : Rd A (fun w => Ints w v xs) w) (hu : Writes w u l) (hr : xs.length * 8 ≤ 140737488355328) :
    Keeps Try.prog 49 #[v, u] w A fun r w' => Ints w' r (setAll xs l) := by
  unfold Keeps
  obtain ⟨bo, cap', rfl, g1, g2, g3⟩ := hu.form
  unfold maxLen at g2
  clear hu
  go_enter Try.func49, Try.ntmps49
  go_wp2
  go_loopw [0, 9] (fun cv i wr => ∃ k : Nat, k ≤ l.length ∧ i = I k ∧ Rd (fun k => A k ∨ w.heap.size ≤ k) (fun w => Ints w cv (setAll xs (l.take k))) wr ∧ Ext w wr) (fun _ i _ => l.length - (intOf i).toNat)
  case atStart => exact ⟨0, by omega, rfl, hv.widen (fun _ _ h => .inl h), Ext.refl _⟩
  case round =>
    obtain ⟨k, hk, rfl, hc, he⟩ := hrel
    clear hv
    by_cases hlt : k < l.length
    · obtain ⟨b, off, rfl, c1, c2⟩ := g3 k hlt
      replace c1 := he.cell c1
      replace c2 := he.cell c2
      have HT : Hid (setAll xs (l.take (k + 1)) = setAll (setAll xs (l.take k)) [l.getD k (0, 0)]) := by
        unfold Hid
        rw [setAll_one, List.take_add_one, List.getElem?_eq_getElem hlt, List.getD_eq_getElem?_getD, List.getElem?_eq_getElem hlt]
        rfl
      generalize l.getD k (0, 0) = p at *
      obtain ⟨p1, p2⟩ := p
      simp only [] at c1 c2
      have hlen : (setAll xs (l.take k)).length * 8 ≤ 140737488355328 := by rw [length_setAll]; exact hr
      generalize setAll xs (l.take k) = ys at *
      clear g3
      have hws := he.size
      go_wp2_with fail
      refine (refSet_own u0 _ ys [(p1, p2)] _ (hc.out.ext (((Ext.refl wr).alloc _).alloc _)) (writes_lit1 _ _ [(p1, p2)] _ 1 rfl rfl (by decide)) hlen (by simp)).to fun r w2 he2 ⟨n2, ho2⟩ => ?_
      have hr2 := (rd_ints ho2).widen (B := fun k => A k ∨ w.heap.size ≤ k) (fun j _ h => .inr (by simp at h; omega))
      clear c1 c2 ho2
      go_wp2
      go_roundw
      case rel => exact ⟨k + 1, by omega, by go_num, by rw [HT.out]; exact hr2, he.trans ((((Ext.refl wr).alloc _).alloc _).trans he2)⟩
      case measure => simp [intOf]; omega
    · go_wp2
      go_ret
      rw [List.take_of_length_le (by omega)] at hc
      exact ⟨_, rfl, he, hc⟩

set_option maxHeartbeats 1000000 in
theorem refBack_keeps (c u a p : Value) (s : St) (w : World) (A : Nat → Prop) (h : Rd A (fun w => elSt w [c, u, a, p] s) w) (hr : s.cells.length * 8 ≤ 140737488355328) :
    Keeps Try.prog 33 #[.agg #[c, u, a, p]] w A (fun r w' => Agg elSt (backSt s) r w') := by
  unfold Keeps
  obtain ⟨_, _, _, _, e, h1, h2, h3, h4⟩ := rd_st h
  simp at e
  obtain ⟨rfl, rfl, rfl, rfl⟩ := e
  clear h
  obtain ⟨ua, uc, rfl⟩ := row_slice h2.out
  obtain ⟨aa, ac, rfl⟩ := rowOf_slice h3.out
  obtain ⟨pa, pc, rfl⟩ := rowOf_slice h4.out
  generalize hu : Value.slice ua s.undo.length uc = u at *
  generalize ha : Value.slice aa s.answers.length ac = a at *
  generalize hp : Value.slice pa s.past.length pc = p at *
  have HU := Lib.hid hu
  have HAA := Lib.hid ha
  have HP := Lib.hid hp
  clear hu ha hp
  obtain ⟨B, hB⟩ := away A w.heap.size 2
  have HK := Lib.hid hB
  clear hB
  have e0 : Ext w ((w.alloc (.cells #[c, u, a, p] 48)).alloc (.cells #[.slice none 0 0, .slice none 0 0, .slice none 0 0, .slice none 0 0] 48)) := ((Ext.refl w).alloc _).alloc _
  have HB : Hid (∀ wx, Ext ((w.alloc (.cells #[c, u, a, p] 48)).alloc (.cells #[.slice none 0 0, .slice none 0 0, .slice none 0 0, .slice none 0 0] 48)) wx → wx.heap[w.heap.size]? = some (.cells #[c, u, a, p] 48 (0, 0)) ∧ wx.heap[w.heap.size + 1]? = some (.cells #[.slice none 0 0, .slice none 0 0, .slice none 0 0, .slice none 0 0] 48 (0, 0))) := fun wx hx => ⟨first_block hx, second_block hx⟩
  have hsz : ((w.alloc (.cells #[c, u, a, p] 48)).alloc (.cells #[.slice none 0 0, .slice none 0 0, .slice none 0 0, .slice none 0 0] 48)).heap.size = w.heap.size + 2 := by simp
  replace h1 := (h1.widen HK.out.1).ext e0
  replace h2 := (h2.widen HK.out.1).ext e0
  replace h3 := (h3.widen HK.out.1).ext e0
  replace h4 := (h4.widen HK.out.1).ext e0
  go_enter Try.func33, Try.ntmps33
  go_wp2_with fail
  generalize hw0 : (w.alloc (.cells #[c, u, a, p] 48)).alloc (.cells #[.slice none 0 0, .slice none 0 0, .slice none 0 0, .slice none 0 0] 48) = w0 at *
  clear hw0
  refine (refSet2_keeps c u _ _ w0 B h1 h2.out hr).to fun r w1 e1 hr1 => ?_
  replace hr1 := hr1.widen (B := B) (fun k _ h => by rcases h with h | h; exact h; exact HK.out.2.1 k (by omega))
  replace h3 := h3.ext e1
  replace h4 := h4.ext e1
  obtain ⟨ra, rc, hrs⟩ := row_slice hr1.out
  subst hrs
  have hu := HU.out
  have ha := HAA.out
  have hp := HP.out
  subst hu ha hp
  obtain ⟨b0, b1⟩ := HB.out w1 e1
  obtain ⟨x0, x1, x2, x3, f0, f1, f2, f3⟩ := box4 b0
  obtain ⟨y0, y1, y2, y3, g0, g1, g2, g3⟩ := box4 b1
  clear hsz
  have H1 := Lib.hid hr1
  have H3 := Lib.hid h3
  have H4 := Lib.hid h4
  clear hr1 h3 h4 h1 h2
  go_wp2_with fail
  clear x0 x1 x2 x3 f0 f1 f2 f3 y0 y1 y2 y3 g0 g1 g2 g3
  have b2 := set4 (block_set (i := 1) (x := .slice none 0 0) (block_set (i := 0) (x := .slice ra (setAll s.cells s.undo).length rc) b1 (Nat.succ_ne_self w.heap.size)) (Nat.succ_ne_self w.heap.size)) (.slice ra (setAll s.cells s.undo).length rc) (.slice none 0 0) (.slice aa s.answers.length ac) (.slice pa s.past.length pc)
  obtain ⟨q0, q1, q2, q3, -⟩ := box4 b2
  have n0 : ¬ B w.heap.size := HK.out.2.2.1 _ (Nat.le_refl _) (by omega)
  have n1 : ¬ B (w.heap.size + 1) := HK.out.2.2.1 _ (by omega) (by omega)
  have m1 : Ext w w1 := e0.trans e1
  have m2 := ext_set4 ((m1.setCell (p := ⟨w.heap.size, 0, none⟩) (Nat.le_refl _) (.slice ra (setAll s.cells s.undo).length rc)).setCell (p := ⟨w.heap.size, 1, none⟩) (Nat.le_refl _) (.slice none 0 0)) (b := w.heap.size + 1) (by omega) (.slice ra (setAll s.cells s.undo).length rc) (.slice none 0 0) (.slice aa s.answers.length ac) (.slice pa s.past.length pc)
  refine bodyPost_ret (by simp [results, Try.results33, go_sem, q0, q1, q2, q3]; rfl) rfl ?_
  refine ⟨_, rfl, m2, Rd.widen (A := B) (agg_rd (st_rd (s := backSt s) ?_ ?_ ?_ ?_)) (fun k _ h => HK.out.2.2.2 k h)⟩
  · exact (((((H1.out.set n0 _ _).set n0 _ _).set n1 _ _).set n1 _ _).set n1 _ _).set n1 _ _
  · exact Rd.all fun w => writes_nil w
  · exact (((((H3.out.set n0 _ _).set n0 _ _).set n1 _ _).set n1 _ _).set n1 _ _).set n1 _ _
  · exact (((((H4.out.set n0 _ _).set n0 _ _).set n1 _ _).set n1 _ _).set n1 _ _).set n1 _ _

end Go.Proofs.Ytdmipnnfoolelac

namespace Go.Proofs.Ytdmipnnfoolelac
open Go.RowKit Go.Mk

theorem third_block {w wx : World} {o1 o2 o3 : Obj} (h : Ext (((w.alloc o1).alloc o2).alloc o3) wx) : wx.heap[w.heap.size]? = some o1 ∧ wx.heap[w.heap.size + 1]? = some o2 ∧ wx.heap[w.heap.size + 1 + 1]? = some o3 := by
  have h2 : Ext ((w.alloc o1).alloc o2) wx := ((Ext.refl _).alloc o3).trans h
  refine ⟨first_block h2, second_block h2, ?_⟩
  have := block_ext h
  simpa using this

theorem write_out {s : St} {x y : Int} (h : ¬ (0 ≤ x ∧ x < (s.cells.length : Int))) : writeSt s (x, y) = s := if_neg h
theorem write_in {s : St} {j : Nat} {y : Int} (h : j < s.cells.length) : writeSt s ((j : Int), y) = { s with cells := setAll s.cells [((j : Int), y)], undo := ((j : Int), s.cells.getD j 0) :: s.undo } := by
  unfold writeSt
  rw [if_pos ⟨by omega, by simp only []; omega⟩]
  rfl

set_option maxHeartbeats 1000000 in
theorem refWrite_out (c u a p : Value) (s : St) (x y : Int) (w : World) (A : Nat → Prop) (h : Rd A (fun w => elSt w [c, u, a, p] s) w) (hx : ¬ (0 ≤ x ∧ x < (s.cells.length : Int))) :
    Keeps Try.prog 29 #[.agg #[c, u, a, p], .agg #[I x, I y]] w A (fun r w' => Agg elSt (writeSt s (x, y)) r w') := by
  rw [write_out hx]
  unfold Keeps
  obtain ⟨_, _, _, _, e, h1, h2, h3, h4⟩ := rd_st h
  simp at e
  obtain ⟨rfl, rfl, rfl, rfl⟩ := e
  clear h
  obtain ⟨ca, cc, rfl⟩ := row_slice h1.out
  obtain ⟨ua, uc, rfl⟩ := row_slice h2.out
  obtain ⟨aa, ac, rfl⟩ := rowOf_slice h3.out
  obtain ⟨pa, pc, rfl⟩ := rowOf_slice h4.out
  generalize hc : Value.slice ca s.cells.length cc = c at *
  generalize hu : Value.slice ua s.undo.length uc = u at *
  generalize ha : Value.slice aa s.answers.length ac = a at *
  generalize hp : Value.slice pa s.past.length pc = p at *
  have HC := Lib.hid hc
  have HU := Lib.hid hu
  have HAA := Lib.hid ha
  have HP := Lib.hid hp
  clear hc hu ha hp
  have H1 := Lib.hid h1
  have H2 := Lib.hid h2
  have H3 := Lib.hid h3
  have H4 := Lib.hid h4
  clear h1 h2 h3 h4
  generalize hn : s.cells.length = n at *
  clear hn
  have hc := HC.out
  have hu := HU.out
  have ha := HAA.out
  have hp := HP.out
  subst hc hu ha hp
  by_cases h0 : 0 ≤ x
  · have hxn : ¬ (x < (n : Int)) := fun h => hx ⟨h0, h⟩
    clear hx
    go_enter Try.func29, Try.ntmps29
    go_wp2
    refine bodyPost_ret (by simp [results, Try.results29, go_sem]; rfl) rfl ?_
    exact ⟨_, rfl, (((Ext.refl w).alloc _).alloc _).alloc _, ((agg_rd (st_rd H1.out H2.out H3.out H4.out)).ext ((((Ext.refl w).alloc _).alloc _).alloc _)).widen (fun _ _ h => .inl h)⟩
  · clear hx
    go_enter Try.func29, Try.ntmps29
    go_wp2
    refine bodyPost_ret (by simp [results, Try.results29, go_sem]; rfl) rfl ?_
    exact ⟨_, rfl, (((Ext.refl w).alloc _).alloc _).alloc _, ((agg_rd (st_rd H1.out H2.out H3.out H4.out)).ext ((((Ext.refl w).alloc _).alloc _).alloc _)).widen (fun _ _ h => .inl h)⟩

set_option maxHeartbeats 1000000 in
theorem refWrite_in (c u a p : Value) (s : St) (j : Nat) (y : Int) (w : World) (A : Nat → Prop) (h : Rd A (fun w => elSt w [c, u, a, p] s) w) (hj : j < s.cells.length) (hr : s.cells.length * 8 ≤ 140737488355328) (hr2 : (1 + s.undo.length) * 16 ≤ 140737488355328) :
    Keeps Try.prog 29 #[.agg #[c, u, a, p], .agg #[I j, I y]] w A (fun r w' => Agg elSt (writeSt s ((j : Int), y)) r w') := by
  rw [write_in hj]
  unfold Keeps
  obtain ⟨_, _, _, _, e, h1, h2, h3, h4⟩ := rd_st h
  simp at e
  obtain ⟨rfl, rfl, rfl, rfl⟩ := e
  clear h
  obtain ⟨ca, cc, rfl⟩ := row_slice h1.out
  obtain ⟨ua, uc, rfl⟩ := row_slice h2.out
  obtain ⟨aa, ac, rfl⟩ := rowOf_slice h3.out
  obtain ⟨pa, pc, rfl⟩ := rowOf_slice h4.out
  generalize hc : Value.slice ca s.cells.length cc = c at *
  generalize hu : Value.slice ua s.undo.length uc = u at *
  generalize ha : Value.slice aa s.answers.length ac = a at *
  generalize hp : Value.slice pa s.past.length pc = p at *
  have HC := Lib.hid hc
  have HU := Lib.hid hu
  have HAA := Lib.hid ha
  have HP := Lib.hid hp
  clear hc hu ha hp
  obtain ⟨B, hB⟩ := away A w.heap.size 3
  have HK := Lib.hid hB
  clear hB
  have e0 : Ext w (((w.alloc (.cells #[c, u, a, p] 48)).alloc (.cells #[I j, I y] 50)).alloc (.cells #[.slice none 0 0, .slice none 0 0, .slice none 0 0, .slice none 0 0] 48)) := (((Ext.refl w).alloc _).alloc _).alloc _
  have HB := Lib.hid (fun wx (h : Ext (((w.alloc (.cells #[c, u, a, p] 48)).alloc (.cells #[I j, I y] 50)).alloc (.cells #[.slice none 0 0, .slice none 0 0, .slice none 0 0, .slice none 0 0] 48)) wx) => third_block h)
  have hsz : (((w.alloc (.cells #[c, u, a, p] 48)).alloc (.cells #[I j, I y] 50)).alloc (.cells #[.slice none 0 0, .slice none 0 0, .slice none 0 0, .slice none 0 0] 48)).heap.size = w.heap.size + 3 := by simp
  have HSZ := Lib.hid hsz
  clear hsz
  replace h1 := (h1.widen HK.out.1).ext e0
  replace h2 := (h2.widen HK.out.1).ext e0
  replace h3 := (h3.widen HK.out.1).ext e0
  replace h4 := (h4.widen HK.out.1).ext e0
  have H1 := Lib.hid h1
  have H2 := Lib.hid h2
  have H3 := Lib.hid h3
  have H4 := Lib.hid h4
  clear h1 h2 h3 h4
  have HR := Lib.hid hr
  have HR2 := Lib.hid hr2
  clear hr hr2
  have hc := HC.out
  have hu := HU.out
  have ha := HAA.out
  have hp := HP.out
  subst hc hu ha hp
  go_enter Try.func29, Try.ntmps29
  have hjn : (j : Int) < (s.cells.length : Int) := by omega
  have hj0 : (0 : Int) ≤ (j : Int) := by omega
  go_wp2_with fail
  generalize hw0 : ((w.alloc (.cells #[.slice ca s.cells.length cc, .slice ua s.undo.length uc, .slice aa s.answers.length ac, .slice pa s.past.length pc] 48)).alloc (.cells #[I j, I y] 50)).alloc (.cells #[.slice none 0 0, .slice none 0 0, .slice none 0 0, .slice none 0 0] 48) = w0 at *
  clear hw0
  obtain ⟨b0, b1, -⟩ := HB.out w0 (Ext.refl _)
  obtain ⟨x0, x1, x2, x3, -⟩ := box4 b0
  obtain ⟨y0, y1, -⟩ := box2 b1
  obtain ⟨_, cap', he, -, -, hcell⟩ := H1.out.out.form
  simp at he
  obtain ⟨rfl, rfl⟩ := he
  obtain ⟨cb, co, rfl, hcj⟩ := hcell j hj
  clear hcell b0 b1
  generalize hold : s.cells.getD j 0 = old at *
  obtain ⟨i0, hi, hz0, hz1, hz2⟩ := info_parts Try.infoWrite
  have HI := Lib.hid hi
  clear hi
  have hbs : w.heap.size + 3 = w0.heap.size := HSZ.out.symm
  refine wp_region_mono_tail 14 [none, none, none, none, none, none, none, none, none, some (.inr (FullOf w0.heap.size 50 2 1 (cells2 [((j : Int), old)]))), none, none, some (.inr fun v wx => wx.ownsRow w0.heap.size 50 2 v (1 + s.undo.length) (cells2 (((j : Int), old) :: s.undo))), none] (by kernel_rfl) (by kernel_rfl) ?_ ?_
  · exact ⟨trivial, trivial, trivial, trivial, trivial, trivial, trivial, trivial, trivial, monoFull _ _ _ _ _, trivial, trivial, monoOwns _ _ _ _ _, trivial, trivial⟩
  iterate 1 (refine wpM_p (fun K hK => ?_); go_simp; first | refine hK _ ?_ | refine ⟨(fun h => by cases h), hK _ ?_⟩; clear hK K)
  refine wpM_q (I j) rfl (fun w' hw' => by have q0 := hw'.cell y0; go_simp) ?_
  refine wpM_norm (fun K hK => ?_); go_simp; refine hK _ ?_; clear hK K
  iterate 1 (refine wpM_p (fun K hK => ?_); go_simp; first | refine hK _ ?_ | refine ⟨(fun h => by cases h), hK _ ?_⟩; clear hK K)
  refine wpM_q (.slice (some ⟨cb, co, none⟩) s.cells.length cc) rfl (fun w' hw' => by have q0 := hw'.cell x0; go_simp) ?_
  refine wpM_norm (fun K hK => ?_); go_simp; refine hK _ ?_; clear hK K
  iterate 1 (refine wpM_p (fun K hK => ?_); go_simp; first | refine hK _ ?_ | refine ⟨(fun h => by cases h), hK _ ?_⟩; clear hK K)
  refine wpM_q (I j) rfl (fun w' hw' => by have q0 := hw'.cell y0; go_simp) ?_
  refine wpM_norm (fun K hK => ?_); go_simp; refine hK _ ?_; clear hK K
  iterate 1 (refine wpM_p (fun K hK => ?_); go_simp; first | refine hK _ ?_ | refine ⟨(fun h => by cases h), hK _ ?_⟩; clear hK K)
  refine wpM_q (I old) rfl (fun w' hw' => by have q0 := hw'.cell hcj; go_simp) ?_
  refine wpM_norm (fun K hK => ?_); go_simp; refine hK _ ?_; clear hK K
  iterate 1 (refine wpM_p (fun K hK => ?_); go_simp; first | refine hK _ ?_ | refine ⟨(fun h => by cases h), hK _ ?_⟩; clear hK K)
  refine wpM_l _ rfl (fun w' hw' hk => ?_) (fun v25 => ?_)
  · have hsz := hw'.size
    clear hk
    unfold makes
    go_simp
    exact ⟨(Ext.refl _).alloc _, full_lit _ 1 hsz (by decide) rfl⟩
  refine wpM_norm (fun K hK => ?_); go_simp; refine hK _ ?_; clear hK K
  iterate 1 (refine wpM_p (fun K hK => ?_); go_simp; first | refine hK _ ?_ | refine ⟨(fun h => by cases h), hK _ ?_⟩; clear hK K)
  refine wpM_q ((.slice ua s.undo.length uc)) rfl (fun w' hw' => by have q0 := hw'.cell x1; go_simp) ?_
  refine wpM_norm (fun K hK => ?_); go_simp; refine hK _ ?_; clear hK K
  refine wpM_l _ rfl (fun w' hw' hk => ?_) (fun v28 => ?_)
  · have h25 : FullOf w0.heap.size 50 2 1 (cells2 [((j : Int), old)]) v25 w' := hk 25 (by decide)
    obtain ⟨v', w'', hrun, ho, he⟩ := run_append_full (P := Try.prog) w' w0.heap.size 44 44 50 i0 _ 2 16 Try.underlying44 HI.out hz0 hz1 hz2 rfl (by decide) v25 1 _ h25 (.slice ua s.undo.length uc) s.undo.length _ (H2.out.out.ext hw') (cells2_one _) HR2.out (by decide) hw'.size
    exact makes_append rfl rfl rfl hrun he (by rw [← cells2_append] at ho; exact ho)
  refine wpM_norm (fun K hK => ?_); go_simp; refine hK _ ?_; clear hK K
  iterate 1 (refine wpM_p (fun K hK => ?_); go_simp; first | refine hK _ ?_ | refine ⟨(fun h => by cases h), hK _ ?_⟩; clear hK K)
  refine wpM_nil ?_
  intro w1 e1 hX
  have ho1 : w1.ownsRow w0.heap.size 50 2 v28 (1 + s.undo.length) (cells2 (((j : Int), old) :: s.undo)) := hX 28
  clear hX x0 x1 x2 x3 y0 y1 hcj
  have hq1 : Rd B (fun w => Writes w v28 (((j : Int), old) :: s.undo)) w1 := (rd_writes ho1).widen (fun k _ h => HK.out.2.1 k (by omega))
  obtain ⟨va, vc, hvs⟩ := row_slice hq1.out
  subst hvs
  have HQ1 := Lib.hid hq1
  clear hq1 ho1
  obtain ⟨b0, b1, b2⟩ := HB.out w1 e1
  obtain ⟨x0, x1, x2, x3, f0, f1, f2, f3⟩ := box4 b0
  obtain ⟨y0, y1, -⟩ := box2 b1
  go_wp2_with fail
  clear x0 x1 x2 x3 f0 f1 f2 f3 y0 y1
  have n0 : ¬ B w.heap.size := HK.out.2.2.1 _ (Nat.le_refl _) (by omega)
  have n2 : ¬ B (w.heap.size + 1 + 1) := HK.out.2.2.1 _ (by omega) (by omega)
  have m2 : Ext w (w1.setCell ⟨w.heap.size, 1, none⟩ (.slice va (s.undo.length + 1) vc)) := (e0.trans e1).setCell (Nat.le_refl _) _
  have k1 := (H1.out.ext e1).set n0 1 (.slice va (s.undo.length + 1) vc)
  have k2 := HQ1.out.set n0 1 (.slice va (s.undo.length + 1) vc)
  have k3 := (H3.out.ext e1).set n0 1 (.slice va (s.undo.length + 1) vc)
  have k4 := (H4.out.ext e1).set n0 1 (.slice va (s.undo.length + 1) vc)
  have c0 : (w1.setCell ⟨w.heap.size, 1, none⟩ (.slice va (s.undo.length + 1) vc)).heap[w.heap.size]? = some (.cells #[.slice (some ⟨cb, co, none⟩) s.cells.length cc, .slice va (s.undo.length + 1) vc, .slice aa s.answers.length ac, .slice pa s.past.length pc] 48 (0, 0)) := by
    have := heap_setCell_same _ _ 1 _ _ (.slice va (s.undo.length + 1) vc) b0
    simpa using this
  have c2 := block_set (i := 1) (x := .slice va (s.undo.length + 1) vc) b2 (show w.heap.size + 1 + 1 ≠ w.heap.size by omega)
  have hs2 : (w1.setCell ⟨w.heap.size, 1, none⟩ (.slice va (s.undo.length + 1) vc)).heap.size = w1.heap.size := by simp
  have hle : w0.heap.size ≤ w1.heap.size := e1.size
  have hlit := writes_lit (w := w1.setCell ⟨w.heap.size, 1, none⟩ (.slice va (s.undo.length + 1) vc)) 50 [((j : Int), y)] #[I j, I y] 1 rfl rfl (by decide)
  rw [hs2] at hlit
  generalize hw2 : w1.setCell ⟨w.heap.size, 1, none⟩ (.slice va (s.undo.length + 1) vc) = w2 at *
  clear hw2 b0 b1 b2 e1
  refine (refSet_own _ _ s.cells [((j : Int), y)] _ (k1.out.ext ((Ext.refl w2).alloc _)) hlit HR.out (by simp)).to fun r w4 e4 ⟨n4, ho4⟩ => ?_
  have k5 : Rd B (fun w => Ints w r (setAll s.cells [((j : Int), y)])) w4 := (rd_ints ho4).widen (fun k _ h => HK.out.2.1 k (by simp at h; omega))
  replace e4 := ((Ext.refl w2).alloc (.cells #[I j, I y] 50)).trans e4
  obtain ⟨ra, rc, hrs⟩ := row_slice k5.out
  subst hrs
  have K2 := Lib.hid (k2.ext e4)
  have K3 := Lib.hid (k3.ext e4)
  have K4 := Lib.hid (k4.ext e4)
  have K5 := Lib.hid k5
  have d0 := block_of c0 e4
  have d2 := block_of c2 e4
  have m4 := m2.trans e4
  clear k1 k2 k3 k4 k5 ho4 hlit hs2 c0 c2 m2 e4 hle
  obtain ⟨x0, x1, x2, x3, f0, f1, f2, f3⟩ := box4 d0
  obtain ⟨y0, y1, y2, y3, g0, g1, g2, g3⟩ := box4 d2
  go_wp2_with fail
  clear x0 x1 x2 x3 f0 f1 f2 f3 y0 y1 y2 y3 g0 g1 g2 g3
  have d3 := set4 (block_set (i := 0) (x := .slice ra (setAll s.cells [((j : Int), y)]).length rc) d2 (show w.heap.size + 1 + 1 ≠ w.heap.size by omega)) (.slice ra (setAll s.cells [((j : Int), y)]).length rc) (.slice va (s.undo.length + 1) vc) (.slice aa s.answers.length ac) (.slice pa s.past.length pc)
  obtain ⟨q0, q1, q2, q3, -⟩ := box4 d3
  have m5 := ext_set4 (m4.setCell (p := ⟨w.heap.size, 0, none⟩) (Nat.le_refl _) (.slice ra (setAll s.cells [((j : Int), y)]).length rc)) (b := w.heap.size + 1 + 1) (by omega) (.slice ra (setAll s.cells [((j : Int), y)]).length rc) (.slice va (s.undo.length + 1) vc) (.slice aa s.answers.length ac) (.slice pa s.past.length pc)
  refine bodyPost_ret (by simp [results, Try.results29, go_sem, q0, q1, q2, q3]; rfl) rfl ?_
  rw [hold]
  refine ⟨_, rfl, m5, Rd.widen (A := B) (agg_rd (st_rd (s := { s with cells := setAll s.cells [((j : Int), y)], undo := ((j : Int), old) :: s.undo }) ?_ ?_ ?_ ?_)) (fun k _ h => HK.out.2.2.2 k h)⟩
  · exact ((((K5.out.set n0 _ _).set n2 _ _).set n2 _ _).set n2 _ _).set n2 _ _
  · exact ((((K2.out.set n0 _ _).set n2 _ _).set n2 _ _).set n2 _ _).set n2 _ _
  · exact ((((K3.out.set n0 _ _).set n2 _ _).set n2 _ _).set n2 _ _).set n2 _ _
  · exact ((((K4.out.set n0 _ _).set n2 _ _).set n2 _ _).set n2 _ _).set n2 _ _

theorem refWrite_keeps (c u a p : Value) (s : St) (x y : Int) (w : World) (A : Nat → Prop) (h : Rd A (fun w => elSt w [c, u, a, p] s) w) (hr : s.cells.length * 8 ≤ 140737488355328) (hr2 : (1 + s.undo.length) * 16 ≤ 140737488355328) :
    Keeps Try.prog 29 #[.agg #[c, u, a, p], .agg #[I x, I y]] w A (fun r w' => Agg elSt (writeSt s (x, y)) r w') := by
  by_cases hx : 0 ≤ x ∧ x < (s.cells.length : Int)
  · obtain ⟨j, rfl⟩ : ∃ j : Nat, x = (j : Int) := ⟨x.toNat, by omega⟩
    exact refWrite_in c u a p s j y w A h (by omega) hr hr2
  · exact refWrite_out c u a p s x y w A h hx

end Go.Proofs.Ytdmipnnfoolelac

namespace Go.Proofs.Ytdmipnnfoolelac
open Go.RowKit Go.Mk

set_option maxHeartbeats 400000 in
theorem mwithin_any (n a b : Int) (w : World) :
    Calls Try.prog 60 #[I n, I a, I b] w fun e w' => e = .returned (.bool (decide (a ≤ n ∧ n ≤ b))) ∧ w' = w := by
  by_cases hi : a ≤ n
  · go_enter Try.func60, Try.ntmps60
    go_wp2
    go_ret
    exact ⟨by simp [hi], rfl⟩
  · go_enter Try.func60, Try.ntmps60
    go_wp2
    go_ret
    exact ⟨by simp; omega, rfl⟩

set_option maxHeartbeats 400000 in
theorem rightName_any (n : Int) (has : Bool) (w : World) :
    Calls Try.prog 61 #[I n, .bool has] w fun e w' => e = .returned (.bool (if has then decide (1 ≤ n ∧ n ≤ 255) else n == 0)) ∧ w' = w := by
  cases has
  · go_enter Try.func61, Try.ntmps61
    go_wp2
    go_ret
    exact ⟨by simp, rfl⟩
  · go_enter Try.func61, Try.ntmps61
    go_wp2_with (go_at_call 60; refine Calls.same (mwithin_any _ _ _ _) ?_)
    go_ret
    exact ⟨by simp, rfl⟩

set_option maxHeartbeats 400000 in
theorem rightNumber_any (n : Int) (has : Bool) (w : World) :
    Calls Try.prog 62 #[I n, .bool has] w fun e w' => e = .returned (.bool (if has then decide (-1073741824 ≤ n ∧ n ≤ 1073741824) else n == 0)) ∧ w' = w := by
  cases has
  · go_enter Try.func62, Try.ntmps62
    go_wp2
    go_ret
    exact ⟨by simp, rfl⟩
  · go_enter Try.func62, Try.ntmps62
    go_wp2_with (go_at_call 60; refine Calls.same (mwithin_any _ _ _ _) ?_)
    go_ret
    exact ⟨by simp, rfl⟩

theorem wrongCl_of {k a o n r : Int} (h : wrongCl ⟨k, a, o, n⟩ = r) : (Ending.returned (I r)) = .returned (I (wrongCl ⟨k, a, o, n⟩)) := by rw [h]

set_option maxHeartbeats 2000000 in
theorem mWrong_any (k a o n : Int) (w : World) : Gives Try.prog 37 #[.agg #[I k, I a, I o, I n]] w fun r _ => r = I (wrongCl ⟨k, a, o, n⟩) := by
  unfold Gives
  by_cases hk : 1 ≤ k ∧ k ≤ 6
  case neg =>
    have hk' : decide (1 ≤ k ∧ k ≤ 6) = false := by simpa using hk
    go_enter Try.func37, Try.ntmps37
    go_wp2_with (go_at_call 60; refine Calls.same (mwithin_any _ _ _ _) ?_)
    go_ret
    exact gives_ret ((Ext.refl w).alloc _) (congrArg I (show 1 = _ by simp only [wrongCl]; rw [if_pos hk]))
  have hk2 : k = 1 ∨ k = 2 ∨ k = 3 ∨ k = 4 ∨ k = 5 ∨ k = 6 := by omega
  clear hk
  rcases hk2 with rfl | rfl | rfl | rfl | rfl | rfl
  all_goals
    go_enter Try.func37, Try.ntmps37
    go_wp2_with (first
      | (go_at_call 60; refine Calls.same (mwithin_any _ _ _ _) ?_)
      | (go_at_call 61; refine Calls.same (rightName_any _ _ _) ?_)
      | (go_at_call 62; refine Calls.same (rightNumber_any _ _ _) ?_))
  all_goals
    go_ret
    refine gives_ret ((Ext.refl w).alloc _) ?_
    first | refine congrArg I (show 0 = _ from ?_) | refine congrArg I (show 7 = _ from ?_) | refine congrArg I (show 3 = _ from ?_)
    simp only [Bool.not_eq_eq_eq_not, Bool.not_true, Bool.not_false, decide_eq_true_eq, decide_eq_false_iff_not, beq_iff_eq, beq_eq_false_iff_ne] at *
    unfold wrongCl
    dsimp only
    repeat' split
    all_goals omega

end Go.Proofs.Ytdmipnnfoolelac

namespace Go.Proofs.Ytdmipnnfoolelac
open Go.RowKit Go.Mk

set_option maxHeartbeats 2000000 in
theorem refWrongCall_any (k a o n : Int) (w : World) : Calls Try.prog 39 #[.agg #[I k, I a, I o, I n]] w fun e w' => e = .returned (I (wrongCl ⟨k, a, o, n⟩)) ∧ Ext w w' := by
  have hk2 : k < 1 ∨ 6 < k ∨ k = 1 ∨ k = 2 ∨ k = 3 ∨ k = 4 ∨ k = 5 ∨ k = 6 := by omega
  rcases hk2 with hk | hk | rfl | rfl | rfl | rfl | rfl | rfl
  all_goals
    go_enter Try.func39, Try.ntmps39
    go_wp2
  all_goals
    go_ret
    refine ⟨ret_int ?_, (Ext.refl w).alloc _⟩
    unfold wrongCl
    dsimp only
    repeat' split
    all_goals omega

end Go.Proofs.Ytdmipnnfoolelac

namespace Go.Proofs.Ytdmipnnfoolelac
open Go.RowKit Go.Mk

/-- A request and an answer as values. -/
abbrev RQ (r : Rq) : Value := .agg #[I r.client, I r.token, I r.call.kind, I r.call.name, I r.call.other, I r.call.n]
abbrev AN (a : An) : Value := .agg #[I a.client, I a.token, I a.reply.err, I a.reply.n]

set_option maxHeartbeats 400000 in
theorem wwithin_any (n a b : Int) (w : World) :
    Calls Try.prog 59 #[I n, I a, I b] w fun e w' => e = .returned (.bool (decide (a ≤ n ∧ n ≤ b))) ∧ w' = w := by
  by_cases hi : a ≤ n
  · go_enter Try.func59, Try.ntmps59
    go_wp2
    go_ret
    exact ⟨by simp [hi], rfl⟩
  · go_enter Try.func59, Try.ntmps59
    go_wp2
    go_ret
    exact ⟨by simp; omega, rfl⟩

set_option maxHeartbeats 400000 in
theorem rightTurn_any (c t : Int) (w : World) :
    Calls Try.prog 36 #[I c, I t] w fun e w' => e = .returned (.bool (decide (0 ≤ c ∧ c < 3 ∧ 0 ≤ t ∧ t < 8))) ∧ w' = w := by
  by_cases hi : 0 ≤ c ∧ c ≤ 2
  · have hi' : decide (0 ≤ c ∧ c ≤ 2) = true := by simp [hi]
    go_enter Try.func36, Try.ntmps36
    go_wp2_with (go_at_call 59; refine Calls.same (wwithin_any _ _ _ _) ?_)
    go_ret
    exact ⟨ret_bool (by rw [Bool.eq_iff_iff]; simp; omega), rfl⟩
  · have hi' : decide (0 ≤ c ∧ c ≤ 2) = false := by simpa using hi
    go_enter Try.func36, Try.ntmps36
    go_wp2_with (go_at_call 59; refine Calls.same (wwithin_any _ _ _ _) ?_)
    go_ret
    exact ⟨ret_bool (by rw [Bool.eq_iff_iff]; simp; omega), rfl⟩

set_option maxHeartbeats 400000 in
theorem who_any (c t : Int) (w : World) :
    Calls Try.prog 38 #[I c, I t] w fun e w' => e = .returned (.bool (decide (0 ≤ c ∧ c < 3 ∧ 0 ≤ t ∧ t < 8))) ∧ w' = w := by
  by_cases h0 : 0 ≤ c
  · by_cases h1 : c < 3
    · by_cases h2 : 0 ≤ t
      · go_enter Try.func38, Try.ntmps38
        go_wp2
        go_ret
        exact ⟨ret_bool (by rw [Bool.eq_iff_iff]; simp; omega), rfl⟩
      · go_enter Try.func38, Try.ntmps38
        go_wp2
        go_ret
        exact ⟨ret_bool (by rw [Bool.eq_iff_iff]; simp; omega), rfl⟩
    · go_enter Try.func38, Try.ntmps38
      go_wp2
      go_ret
      exact ⟨ret_bool (by rw [Bool.eq_iff_iff]; simp; omega), rfl⟩
  · go_enter Try.func38, Try.ntmps38
    go_wp2
    go_ret
    exact ⟨ret_bool (by rw [Bool.eq_iff_iff]; simp; omega), rfl⟩

set_option maxHeartbeats 400000 in
theorem rightReply_any (e0 n : Int) (w : World) :
    Calls Try.prog 40 #[.agg #[I e0, I n]] w fun e w' => e = .returned (.bool (decide (¬ (e0 < 0 ∨ 12 < e0 ∨ 1073741824 < n ∨ n < -1073741824 ∨ (0 < e0 ∧ n ≠ 0))))) ∧ Ext w w' := by
  by_cases hz : e0 = 0
  · subst hz
    go_enter Try.func40, Try.ntmps40
    go_wp2_with (go_at_call 59; refine Calls.same (wwithin_any _ _ _ _) ?_)
    go_ret
    exact ⟨ret_bool (by rw [Bool.eq_iff_iff]; simp; omega), (Ext.refl w).alloc _⟩
  have hz' : (e0 == 0) = false := by simpa using hz
  by_cases hi : 0 ≤ e0 ∧ e0 ≤ 12
  · have hi' : decide (0 ≤ e0 ∧ e0 ≤ 12) = true := by simp [hi]
    go_enter Try.func40, Try.ntmps40
    go_wp2_with (go_at_call 59; refine Calls.same (wwithin_any _ _ _ _) ?_)
    go_ret
    refine ⟨ret_bool ?_, (Ext.refl w).alloc _⟩
    rw [Bool.eq_iff_iff]; simp; omega
  · have hi' : decide (0 ≤ e0 ∧ e0 ≤ 12) = false := by simpa using hi
    go_enter Try.func40, Try.ntmps40
    go_wp2_with (go_at_call 59; refine Calls.same (wwithin_any _ _ _ _) ?_)
    go_ret
    exact ⟨ret_bool (by rw [Bool.eq_iff_iff]; simp; omega), (Ext.refl w).alloc _⟩

end Go.Proofs.Ytdmipnnfoolelac

namespace Go.Proofs.Ytdmipnnfoolelac
open Go.RowKit Go.Mk

theorem wrongRq_no {c t k a o n : Int} (h : ¬ (0 ≤ c ∧ c < 3 ∧ 0 ≤ t ∧ t < 8)) : wrongRq ⟨c, t, ⟨k, a, o, n⟩⟩ = 3 := if_pos h
theorem wrongRq_yes {c t k a o n : Int} (h : 0 ≤ c ∧ c < 3 ∧ 0 ≤ t ∧ t < 8) : wrongRq ⟨c, t, ⟨k, a, o, n⟩⟩ = wrongCl ⟨k, a, o, n⟩ := if_neg (by simp [h])

set_option maxHeartbeats 400000 in
theorem WrongRequest_any (c t k a o n : Int) (w : World) :
    Calls Try.prog 9 #[RQ ⟨c, t, ⟨k, a, o, n⟩⟩] w fun e w' => e = .returned (I (wrongRq ⟨c, t, ⟨k, a, o, n⟩⟩)) ∧ Ext w w' := by
  by_cases hi : 0 ≤ c ∧ c < 3 ∧ 0 ≤ t ∧ t < 8
  · have hi' : decide (0 ≤ c ∧ c < 3 ∧ 0 ≤ t ∧ t < 8) = true := decide_eq_true hi
    rw [wrongRq_yes hi]
    clear hi
    go_enter Try.func9, Try.ntmps9
    go_wp2_with (go_at_call 36; refine Calls.same (rightTurn_any _ _ _) ?_)
    refine (mWrong_any k a o n _).to fun r w1 e1 hr => ?_
    subst hr
    go_wp2
    go_ret
    exact ⟨rfl, ((Ext.refl w).alloc _).trans e1⟩
  · have hi' : decide (0 ≤ c ∧ c < 3 ∧ 0 ≤ t ∧ t < 8) = false := decide_eq_false hi
    rw [wrongRq_no hi]
    clear hi
    go_enter Try.func9, Try.ntmps9
    go_wp2_with (go_at_call 36; refine Calls.same (rightTurn_any _ _ _) ?_)
    go_ret
    exact ⟨rfl, (Ext.refl w).alloc _⟩

set_option maxHeartbeats 400000 in
theorem refWrongRequest_any (c t k a o n : Int) (w : World) :
    Calls Try.prog 10 #[RQ ⟨c, t, ⟨k, a, o, n⟩⟩] w fun e w' => e = .returned (I (wrongRq ⟨c, t, ⟨k, a, o, n⟩⟩)) ∧ Ext w w' := by
  by_cases hi : 0 ≤ c ∧ c < 3 ∧ 0 ≤ t ∧ t < 8
  · have hi' : decide (0 ≤ c ∧ c < 3 ∧ 0 ≤ t ∧ t < 8) = true := decide_eq_true hi
    rw [wrongRq_yes hi]
    clear hi
    go_enter Try.func10, Try.ntmps10
    go_wp2_with (go_at_call 38; refine Calls.same (who_any _ _ _) ?_)
    refine Calls.exts (refWrongCall_any k a o n _) (fun w1 e1 => ?_)
    go_wp2
    go_ret
    exact ⟨rfl, ((Ext.refl w).alloc _).trans e1⟩
  · have hi' : decide (0 ≤ c ∧ c < 3 ∧ 0 ≤ t ∧ t < 8) = false := decide_eq_false hi
    rw [wrongRq_no hi]
    clear hi
    go_enter Try.func10, Try.ntmps10
    go_wp2_with (go_at_call 38; refine Calls.same (who_any _ _ _) ?_)
    go_ret
    exact ⟨rfl, (Ext.refl w).alloc _⟩

theorem wrongAn_no {c t e n : Int} (h : ¬ (0 ≤ c ∧ c < 3 ∧ 0 ≤ t ∧ t < 8)) : wrongAn ⟨c, t, ⟨e, n⟩⟩ = 3 := if_pos (.inl h)
theorem wrongAn_yes {c t e n : Int} (_h : 0 ≤ c ∧ c < 3 ∧ 0 ≤ t ∧ t < 8) (h2 : e < 0 ∨ 12 < e ∨ 1073741824 < n ∨ n < -1073741824 ∨ (0 < e ∧ n ≠ 0)) : wrongAn ⟨c, t, ⟨e, n⟩⟩ = 3 := if_pos (.inr h2)
theorem wrongAn_ok {c t e n : Int} (h : 0 ≤ c ∧ c < 3 ∧ 0 ≤ t ∧ t < 8) (h2 : ¬ (e < 0 ∨ 12 < e ∨ 1073741824 < n ∨ n < -1073741824 ∨ (0 < e ∧ n ≠ 0))) : wrongAn ⟨c, t, ⟨e, n⟩⟩ = 0 := if_neg (not_or.2 ⟨by simp [h], h2⟩)

set_option maxHeartbeats 400000 in
theorem WrongAnswer_any (c t e0 n : Int) (w : World) :
    Calls Try.prog 11 #[AN ⟨c, t, ⟨e0, n⟩⟩] w fun e w' => e = .returned (I (wrongAn ⟨c, t, ⟨e0, n⟩⟩)) ∧ Ext w w' := by
  by_cases hi : 0 ≤ c ∧ c < 3 ∧ 0 ≤ t ∧ t < 8
  case neg =>
    have hi' : decide (0 ≤ c ∧ c < 3 ∧ 0 ≤ t ∧ t < 8) = false := decide_eq_false hi
    rw [wrongAn_no hi]
    clear hi
    go_enter Try.func11, Try.ntmps11
    go_wp2_with (go_at_call 36; refine Calls.same (rightTurn_any _ _ _) ?_)
    go_ret
    exact ⟨rfl, (Ext.refl w).alloc _⟩
  have hi' : decide (0 ≤ c ∧ c < 3 ∧ 0 ≤ t ∧ t < 8) = true := decide_eq_true hi
  by_cases hj : e0 < 0 ∨ 12 < e0 ∨ 1073741824 < n ∨ n < -1073741824 ∨ (0 < e0 ∧ n ≠ 0)
  · have hj' : decide (¬ (e0 < 0 ∨ 12 < e0 ∨ 1073741824 < n ∨ n < -1073741824 ∨ (0 < e0 ∧ n ≠ 0))) = false := decide_eq_false (fun h => h hj)
    rw [wrongAn_yes hi hj]
    have hR := fun wx => rightReply_any e0 n wx
    rw [hj'] at hR
    clear hi hj hj'
    go_enter Try.func11, Try.ntmps11
    go_wp2_with (first | (go_at_call 36; refine Calls.same (rightTurn_any _ _ _) ?_) | (go_at_call 40; refine Calls.exts (hR _) (fun w1 e1 => ?_)))
    go_ret
    exact ⟨rfl, ((Ext.refl w).alloc _).trans e1⟩
  · have hj' : decide (¬ (e0 < 0 ∨ 12 < e0 ∨ 1073741824 < n ∨ n < -1073741824 ∨ (0 < e0 ∧ n ≠ 0))) = true := decide_eq_true hj
    rw [wrongAn_ok hi hj]
    have hR := fun wx => rightReply_any e0 n wx
    rw [hj'] at hR
    clear hi hj hj'
    go_enter Try.func11, Try.ntmps11
    go_wp2_with (first | (go_at_call 36; refine Calls.same (rightTurn_any _ _ _) ?_) | (go_at_call 40; refine Calls.exts (hR _) (fun w1 e1 => ?_)))
    go_ret
    exact ⟨rfl, ((Ext.refl w).alloc _).trans e1⟩

set_option maxHeartbeats 1000000 in
theorem refWrongAnswer_any (c t e0 n : Int) (w : World) :
    Calls Try.prog 12 #[AN ⟨c, t, ⟨e0, n⟩⟩] w fun e w' => e = .returned (I (wrongAn ⟨c, t, ⟨e0, n⟩⟩)) ∧ Ext w w' := by
  by_cases hi : 0 ≤ c ∧ c < 3 ∧ 0 ≤ t ∧ t < 8
  case neg =>
    have hi' : decide (0 ≤ c ∧ c < 3 ∧ 0 ≤ t ∧ t < 8) = false := decide_eq_false hi
    rw [wrongAn_no hi]
    clear hi
    go_enter Try.func12, Try.ntmps12
    go_wp2_with (go_at_call 38; refine Calls.same (who_any _ _ _) ?_)
    go_ret
    exact ⟨rfl, (((Ext.refl w).alloc _).alloc _)⟩
  have hi' : decide (0 ≤ c ∧ c < 3 ∧ 0 ≤ t ∧ t < 8) = true := decide_eq_true hi
  have h5 : e0 < 0 ∨ 12 < e0 ∨ 1073741824 < n ∨ n < -1073741824 ∨ (0 < e0 ∧ n ≠ 0) ∨ ¬ (e0 < 0 ∨ 12 < e0 ∨ 1073741824 < n ∨ n < -1073741824 ∨ (0 < e0 ∧ n ≠ 0)) := by omega
  have e1 : Ext w (((w.alloc (.cells #[I c, I t, I e0, I n] 30)).alloc (.cells #[I e0, I n] 28))) := (((Ext.refl w).alloc _).alloc _)
  have HI := Lib.hid hi
  clear hi
  by_cases q1 : e0 < 0
  · rw [wrongAn_yes HI.out (.inl q1)]
    go_enter Try.func12, Try.ntmps12
    go_wp2_with (go_at_call 38; refine Calls.same (who_any _ _ _) ?_)
    go_ret
    exact ⟨rfl, e1⟩
  by_cases q2 : 12 < e0
  · rw [wrongAn_yes HI.out (.inr (.inl q2))]
    go_enter Try.func12, Try.ntmps12
    go_wp2_with (go_at_call 38; refine Calls.same (who_any _ _ _) ?_)
    go_ret
    exact ⟨rfl, e1⟩
  by_cases q3 : 1073741824 < n
  · rw [wrongAn_yes HI.out (.inr (.inr (.inl q3)))]
    go_enter Try.func12, Try.ntmps12
    go_wp2_with (go_at_call 38; refine Calls.same (who_any _ _ _) ?_)
    go_ret
    exact ⟨rfl, e1⟩
  by_cases q4 : n < -1073741824
  · rw [wrongAn_yes HI.out (.inr (.inr (.inr (.inl q4))))]
    go_enter Try.func12, Try.ntmps12
    go_wp2_with (go_at_call 38; refine Calls.same (who_any _ _ _) ?_)
    go_ret
    exact ⟨rfl, e1⟩
  by_cases q5 : 0 < e0
  · by_cases q6 : n = 0
    · rw [wrongAn_ok HI.out (by omega)]
      have q7 : (n != 0) = false := by simp [q6]
      go_enter Try.func12, Try.ntmps12
      go_wp2_with (go_at_call 38; refine Calls.same (who_any _ _ _) ?_)
      go_ret
      exact ⟨rfl, (((Ext.refl w).alloc _).alloc _)⟩
    · rw [wrongAn_yes HI.out (.inr (.inr (.inr (.inr ⟨q5, q6⟩))))]
      have q7 : (n != 0) = true := by simpa using q6
      go_enter Try.func12, Try.ntmps12
      go_wp2_with (go_at_call 38; refine Calls.same (who_any _ _ _) ?_)
      go_ret
      exact ⟨rfl, e1⟩
  · rw [wrongAn_ok HI.out (by omega)]
    go_enter Try.func12, Try.ntmps12
    go_wp2_with (go_at_call 38; refine Calls.same (who_any _ _ _) ?_)
    go_ret
    exact ⟨rfl, e1⟩

end Go.Proofs.Ytdmipnnfoolelac

namespace Go.Proofs.Ytdmipnnfoolelac
open Go.RowKit Go.Mk

set_option maxHeartbeats 400000 in
theorem formed_any (v : Value) (l : List UInt8) (m : UInt8) (n : Nat) (hn : 0 < n) (w : World) (hv : Bytes w v l) :
    Calls Try.prog 43 #[v, U m, I n] w fun e w' => e = .returned (.bool (decide (l.length = n ∧ l.getD 0 0 = m))) ∧ w' = w := by
  obtain ⟨ao, cap, rfl, h1, h2, h3⟩ := hv.form
  unfold maxLen at h2
  clear hv
  by_cases hl : l.length = n
  · obtain ⟨b, off, rfl, hc⟩ := h3 0 (by omega)
    clear h3
    simp only [Nat.add_zero] at hc
    rw [hl] at h1 ⊢
    generalize l.getD 0 0 = x at *
    have hu : ((x.toNat : Int) == (m.toNat : Int)) = decide (x = m) := by
      rw [Bool.eq_iff_iff]; simp; exact ⟨fun h => UInt8.toNat_inj.1 (by omega), fun h => by rw [h]⟩
    go_enter Try.func43, Try.ntmps43
    go_wp2
    go_ret
    exact ⟨by simp, rfl⟩
  · have hne : (((l.length : Int)) == (n : Int)) = false := by rw [beq_eq_false_iff_ne]; omega
    clear h3
    go_enter Try.func43, Try.ntmps43
    go_wp2
    go_ret
    exact ⟨by simp [hl], rfl⟩

theorem or_below (x y i m : Nat) (hm : m = 2 ^ i) (h : y < m) : (x * m) ||| y = x * m + y := by
  subst hm
  rw [← Nat.shiftLeft_eq, Nat.shiftLeft_add_eq_or_of_lt h]

theorem be32 (a b c d : Nat) (ha : a < 256) (hb : b < 256) (hc : c < 256) (hd : d < 256) :
    bits BinOp.or IntKind.u32 (bits BinOp.or IntKind.u32 (bits BinOp.or IntKind.u32 ((a : Int) % 4294967296 * 16777216 % 4294967296) ((b : Int) % 4294967296 * 65536 % 4294967296)) ((c : Int) % 4294967296 * 256 % 4294967296)) ((d : Int) % 4294967296)
      = ((((a * 256 + b) * 256 + c) * 256 + d : Nat) : Int) := by
  have e0 : ((a : Int) % 4294967296 * 16777216 % 4294967296) = ((a * 16777216 : Nat) : Int) := by omega
  have e1 : ((b : Int) % 4294967296 * 65536 % 4294967296) = ((b * 65536 : Nat) : Int) := by omega
  have e2 : ((c : Int) % 4294967296 * 256 % 4294967296) = ((c * 256 : Nat) : Int) := by omega
  have e3 : ((d : Int) % 4294967296) = ((d : Nat) : Int) := by omega
  rw [e0, e1, e2, e3, u32_or_nat _ _ (by omega) (by omega), or_below a (b * 65536) 24 16777216 (by decide) (by omega),
    show a * 16777216 + b * 65536 = (a * 256 + b) * 65536 by omega, u32_or_nat _ _ (by omega) (by omega), or_below (a * 256 + b) (c * 256) 16 65536 (by decide) (by omega),
    show (a * 256 + b) * 65536 + c * 256 = ((a * 256 + b) * 256 + c) * 256 by omega, u32_or_nat _ _ (by omega) (by omega), or_below _ d 8 256 (by decide) (by omega)]

theorem int32_wrap (n : Nat) (h : n < 4294967296) : wrap64 (wrap32 (n : Int)) = int32 n := by
  unfold wrap64 wrap32 int32
  split <;> omega

theorem number_sum (a b c d : UInt8) : wrap64 (wrap32 (bits BinOp.or IntKind.u32 (bits BinOp.or IntKind.u32 (bits BinOp.or IntKind.u32 ((a.toNat : Int) % 4294967296 * 16777216 % 4294967296) ((b.toNat : Int) % 4294967296 * 65536 % 4294967296)) ((c.toNat : Int) % 4294967296 * 256 % 4294967296)) ((d.toNat : Int) % 4294967296))) = numB [a, b, c, d] := by
  have ha := a.toNat_lt
  have hb := b.toNat_lt
  have hc := c.toNat_lt
  have hd := d.toNat_lt
  rw [be32 _ _ _ _ ha hb hc hd, int32_wrap _ (by omega)]
  rfl

set_option maxHeartbeats 1000000 in
theorem number_any (v : Value) (a b c d : UInt8) (w : World) (hv : Bytes w v [a, b, c, d]) :
    Calls Try.prog 44 #[v] w fun e w' => e = .returned (I (numB [a, b, c, d])) ∧ Ext w w' := by
  obtain ⟨ao, cap, rfl, h1, h2, h3⟩ := hv.form
  unfold maxLen at h2
  clear hv
  obtain ⟨b0, off, rfl, c0⟩ := h3 0 (by simp)
  obtain ⟨_, _, e1, c1⟩ := h3 1 (by simp)
  obtain ⟨_, _, e2, c2⟩ := h3 2 (by simp)
  obtain ⟨_, _, e3, c3⟩ := h3 3 (by simp)
  simp only [Option.some.injEq, Addr.mk.injEq, and_true] at e1 e2 e3
  obtain ⟨rfl, rfl⟩ := e1
  obtain ⟨rfl, rfl⟩ := e2
  obtain ⟨rfl, rfl⟩ := e3
  clear h3
  simp only [Nat.add_zero, List.getD_cons_zero, List.getD_cons_succ, List.length_cons, List.length_nil] at *
  go_enter Try.func44, Try.ntmps44
  go_wp2_with fail
  go_region
  go_wp2
  go_ret
  exact ⟨ret_int (number_sum a b c d), (Ext.refl w).drew⟩

set_option maxHeartbeats 1000000 in
theorem num_any (v : Value) (a b c d : UInt8) (w : World) (hv : Bytes w v [a, b, c, d]) :
    Calls Try.prog 45 #[v] w fun e w' => e = .returned (I (numB [a, b, c, d])) ∧ Ext w w' := by
  obtain ⟨ao, cap, rfl, h1, h2, h3⟩ := hv.form
  unfold maxLen at h2
  clear hv
  obtain ⟨b0, off, rfl, c0⟩ := h3 0 (by simp)
  obtain ⟨_, _, e1, c1⟩ := h3 1 (by simp)
  obtain ⟨_, _, e2, c2⟩ := h3 2 (by simp)
  obtain ⟨_, _, e3, c3⟩ := h3 3 (by simp)
  simp only [Option.some.injEq, Addr.mk.injEq, and_true] at e1 e2 e3
  obtain ⟨rfl, rfl⟩ := e1
  obtain ⟨rfl, rfl⟩ := e2
  obtain ⟨rfl, rfl⟩ := e3
  clear h3
  simp only [Nat.add_zero, List.getD_cons_zero, List.getD_cons_succ, List.length_cons, List.length_nil] at *
  go_enter Try.func45, Try.ntmps45
  go_wp2
  go_loop [3, 5] (fun u i => (i = I 0 ∧ u = .int .u32 0) ∨ (i = I 1 ∧ u = .int .u32 (a.toNat : Int)) ∨ (i = I 2 ∧ u = .int .u32 ((a.toNat * 256 + b.toNat : Nat) : Int)) ∨ (i = I 3 ∧ u = .int .u32 (((a.toNat * 256 + b.toNat) * 256 + c.toNat : Nat) : Int)) ∨
      (i = I 4 ∧ u = .int .u32 ((((a.toNat * 256 + b.toNat) * 256 + c.toNat) * 256 + d.toNat : Nat) : Int))) (fun _ i => 4 - (intOf i).toNat)
  case atStart => exact .inl ⟨rfl, rfl⟩
  case round =>
    have ha := a.toNat_lt
    have hb := b.toNat_lt
    have hc := c.toNat_lt
    have hd := d.toNat_lt
    rcases hrel with ⟨rfl, rfl⟩ | ⟨rfl, rfl⟩ | ⟨rfl, rfl⟩ | ⟨rfl, rfl⟩ | ⟨rfl, rfl⟩
    · go_wp2
      go_round
      case rel => exact .inr (.inl ⟨rfl, by simp⟩)
      case measure => simp [intOf]
    · go_wp2
      go_round
      case rel => exact .inr (.inr (.inl ⟨rfl, congrArg (Value.int .u32) (by omega)⟩))
      case measure => simp [intOf]
    · go_wp2
      go_round
      case rel => exact .inr (.inr (.inr (.inl ⟨rfl, congrArg (Value.int .u32) (by omega)⟩)))
      case measure => simp [intOf]
    · go_wp2
      go_round
      case rel => exact .inr (.inr (.inr (.inr ⟨rfl, congrArg (Value.int .u32) (by omega)⟩)))
      case measure => simp [intOf]
    · go_wp2
      go_ret
      exact ⟨ret_int (Eq.trans (congrArg (fun x => wrap64 (wrap32 x)) (by omega)) (int32_wrap (((a.toNat * 256 + b.toNat) * 256 + c.toNat) * 256 + d.toNat) (by omega))), Ext.refl w⟩

end Go.Proofs.Ytdmipnnfoolelac

namespace Go.Proofs.Ytdmipnnfoolelac
open Go.RowKit Go.Mk

theorem Try.infoByte : (Try.prog.info? 5).map (fun i => (i.zero, i.size, i.bytes)) = some (some (.int .u8 0), 1, 1) := by kernel_rfl

theorem byteU (n : Int) : (Value.int .u8 (n % 256)) = U (Mk.byteOf n) := by
  unfold Mk.byteOf
  refine congrArg (Value.int .u8) ?_
  rw [UInt8.toNat_ofNat']
  omega

theorem four_cells (n : Int) : [Value.int .u8 (n % 4294967296 / 16777216), .int .u8 (n % 4294967296 / 65536 % 256), .int .u8 (n % 4294967296 / 256 % 256), .int .u8 (n % 256)] = (fourB n).map U := by
  unfold fourB u32
  simp only [List.map_cons, List.map_nil, U, UInt8.toNat_ofNat']
  refine congr (congrArg List.cons (congrArg (Value.int .u8) ?_)) (congr (congrArg List.cons (congrArg (Value.int .u8) ?_)) (congr (congrArg List.cons (congrArg (Value.int .u8) ?_)) (congrArg (fun x => [Value.int .u8 x]) ?_)))
  all_goals omega

set_option maxHeartbeats 1000000 in
theorem four_any (n : Int) (w : World) :
    Calls Try.prog 42 #[I n] w fun e w' => e = .returned (.string ⟨(fourB n).toArray⟩) ∧ Ext w w' := by
  have hcv := run_string_of (P := Try.prog) (bytes_lit (w := w) 5 (fourB n) #[.int .u8 (n % 4294967296 / 16777216), .int .u8 (n % 4294967296 / 65536 % 256), .int .u8 (n % 4294967296 / 256 % 256), .int .u8 (n % 256)] 4 (four_cells n) rfl (by decide)) Try.underlying31 Try.underlying5 Try.underlying9
  go_enter Try.func42, Try.ntmps42
  go_wp2
  go_ret
  exact ⟨rfl, (Ext.refl w).alloc _⟩

set_option maxHeartbeats 1000000 in
theorem appendNumber_any (base : Nat) (v : Value) (cs : List Value) (k : Nat) (n : Int) (w : World) (hv : w.ownsRow base 5 1 v k cs) (hk : k ≤ 100) (hb : base ≤ w.heap.size) :
    Calls Try.prog 41 #[v, I n] w fun e w' => ∃ v', e = .returned v' ∧ w'.ownsRow base 5 1 v' (k + 4) (cs ++ (fourB n).map U) ∧ w.grownBy w' v.ownBlock := by
  have hlit := bytes_lit (w := w) 5 (fourB n) #[.int .u8 (n % 4294967296 / 16777216), .int .u8 (n % 4294967296 / 65536 % 256), .int .u8 (n % 4294967296 / 256 % 256), .int .u8 (n % 256)] 4 (four_cells n) rfl (by decide)
  have hgr : w.grownBy (w.alloc (.cells #[.int .u8 (n % 4294967296 / 16777216), .int .u8 (n % 4294967296 / 65536 % 256), .int .u8 (n % 4294967296 / 256 % 256), .int .u8 (n % 256)] 5)) v.ownBlock := Ext.grownBy ((Ext.refl w).alloc _) _
  have HV := Lib.hid hv
  clear hv
  go_enter Try.func41, Try.ntmps41
  go_wp2_with (at_builtin; refine stop_at ?_)
  unfold Hid
  obtain ⟨i0, hi, hz0, hz1, hz2⟩ := info_parts Try.infoByte
  refine wpList_append_row _ rfl (.tmp 8) (.tmp 20) 31 rfl base 5 i0 (.int .u8 0) 1 1 Try.underlying31 hi hz0 hz1 hz2 rfl (by decide) v k cs rfl (HV.out.alloc _) _ rfl 4 ((fourB n).map U) hlit (mapU_one _) (by omega) (by decide) (by simp; omega) ?_
  intro v' w' ho hg
  clear hi hz0 hz1 hz2 hlit
  go_wp2
  go_ret
  exact ⟨v', rfl, ho, grown_trans hgr hg⟩

end Go.Proofs.Ytdmipnnfoolelac

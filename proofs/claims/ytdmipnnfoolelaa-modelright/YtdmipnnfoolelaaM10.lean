/- Walks: all calls, one by one. -/
import Derived.Test.YtdmipnnfoolelaaM9
namespace Go.Proofs.Ytdmipnnfoolelaa
open Go.RowKit Go.Mk

theorem cells2_zero (n : Nat) : cells2 (List.replicate n (0, 0)) = List.replicate (n * 2) (I 0) := by
  induction n with
  | zero => rfl
  | succ n ih =>
    rw [List.replicate_succ, show (n + 1) * 2 = n * 2 + 1 + 1 by omega, List.replicate_succ, List.replicate_succ, ← ih]
    rfl

theorem made2 (n : Nat) : (madeCells #[I 0, I 0] (n * 2)).toList = cells2 (List.replicate n (0, 0)) := by
  rw [cells2_zero, List.eq_replicate_iff]
  refine ⟨by rw [Array.length_toList, size_madeCells], fun b hb => ?_⟩
  simp only [madeCells, Array.toList_map, List.mem_map] at hb
  obtain ⟨i, _, rfl⟩ := hb
  have : i % #[I 0, I 0].size = 0 ∨ i % #[I 0, I 0].size = 1 := by simp; omega
  rcases this with h | h <;> rw [h] <;> rfl

/-- What is told so far, and nothing yet behind it. -/
def fill (l : List (Int × Int)) (n : Nat) : List (Int × Int) := l ++ List.replicate (n - l.length) (0, 0)

theorem length_fill {l : List (Int × Int)} {n : Nat} (h : l.length ≤ n) : (fill l n).length = n := by simp [fill]; omega

theorem fill_set {l : List (Int × Int)} {n : Nat} (h : l.length < n) (p : Int × Int) : (fill l n).set l.length p = fill (l ++ [p]) n := by
  unfold fill
  rw [List.set_append_right _ _ (Nat.le_refl _), Nat.sub_self, show n - l.length = (n - (l ++ [p]).length) + 1 by simp; omega, List.replicate_succ]
  simp

theorem fill_all {l : List (Int × Int)} {n : Nat} (h : l.length = n) : fill l n = l := by simp [fill, h]

set_option maxHeartbeats 1000000 in
theorem All_any (v : Value) (l : List Rq) (w : World) (hv : Reqs w v l) (hl : ∀ r ∈ l, wrongCl r.call = 0) (hr : l.length * 48 ≤ 140737488355328) :
    Calls Try.prog 28 #[v] w fun e w' => ∃ r, e = .returned r ∧ Ext w w' ∧ ∃ x y, r = .tuple #[x, y] ∧ Writes w' x (allCl (l.map Rq.call)).1 ∧ Writes w' y (allCl (l.map Rq.call)).2 := by
  obtain ⟨i0, hi, hz0, hz1, hz2⟩ := info_parts Try.infoReply
  obtain ⟨ao, cap, rfl, h1, h2, h3⟩ := hv.form
  unfold maxLen at h2
  have HOK : Hid (∀ k, Okn (allCl ((l.map Rq.call).take k)).1 ∧ (allCl ((l.map Rq.call).take k)).2.length = min k l.length) := fun k => by
    have := all_ok (cs := l.map Rq.call) (fun c hc => by obtain ⟨r, hr, rfl⟩ := List.mem_map.1 hc; exact hl r hr) k
    simpa using this
  have H3 : Hid (∀ k r, l[k]? = some r → ∃ b off, ao = some ⟨b, off, none⟩ ∧ w.cell? ⟨b, off + k * 6, none⟩ = some (I r.client) ∧ w.cell? ⟨b, off + k * 6 + 1, none⟩ = some (I r.token) ∧ w.cell? ⟨b, off + k * 6 + 2, none⟩ = some (I r.call.kind) ∧
      w.cell? ⟨b, off + k * 6 + 3, none⟩ = some (I r.call.name) ∧ w.cell? ⟨b, off + k * 6 + 4, none⟩ = some (I r.call.other) ∧ w.cell? ⟨b, off + k * 6 + 5, none⟩ = some (I r.call.n)) := h3
  clear h3 hv
  go_enter Try.func28, Try.ntmps28
  go_wp2_with (at_make; refine wpList_make_full _ rfl _ _ 49 rfl w.heap.size 43 i0 (.agg #[.int .i64 0, .int .i64 0]) 2 Try.underlying49 hi hz0 hz1 .i64 .i64 _ _ l.length rfl rfl rfl rfl (by rw [hz2]; omega) (by unfold maxLen; omega) (Nat.le_refl _) ?_; intro w1 hown hgrow)
  have he1 : Ext w w1 := (Ext.refl w).grown hgrow (fun k hk => by cases hk)
  have hown1 : w1.ownsRow w.heap.size 43 2 (.slice (some ⟨w.heap.size, 0, none⟩) l.length l.length) l.length (cells2 (fill [] l.length)) := by
    have h := hown
    rw [show (Value.agg #[Value.int IntKind.i64 0, Value.int IntKind.i64 0]).cells = #[I 0, I 0] from rfl, made2] at h
    exact h
  have hg1 : w.heap.size < w1.heap.size := (hown1.lt _ rfl).2
  clear hown hgrow
  generalize hG : w.heap.size = g at *
  have HG : Hid (w.heap.size = g) := hG
  clear hG
  go_loopw [4, 13] (fun nv i wr => ∃ k : Nat, k ≤ l.length ∧ i = I k ∧ wr.ownsRow g 43 2 (.slice (some ⟨g, 0, none⟩) l.length l.length) l.length (cells2 (fill (allCl ((l.map Rq.call).take k)).2 l.length)) ∧ Has (g + 1) wr nv (allCl ((l.map Rq.call).take k)).1 ∧ g + 1 ≤ wr.heap.size ∧ Ext w wr) (fun _ i _ => l.length - (intOf i).toNat)
  case atStart => exact ⟨0, by omega, rfl, hown1, Has.nil _ _, hg1, he1⟩
  case round =>
    obtain ⟨k, hk, rfl, ho, hh, hs, he⟩ := hrel
    clear hown1
    obtain ⟨okk, lenk⟩ := HOK.out k
    by_cases hlt : k < l.length
    · have hgk : l[k]? = some l[k] := List.getElem?_eq_getElem hlt
      obtain ⟨b, off, rfl, d0, d1, d2, d3, d4, d5⟩ := H3.out k _ hgk
      replace d0 := he.cell d0
      replace d1 := he.cell d1
      replace d2 := he.cell d2
      replace d3 := he.cell d3
      replace d4 := he.cell d4
      replace d5 := he.cell d5
      have hwc : wrongCl l[k].call = 0 := hl _ (List.getElem_mem hlt)
      have HT : Hid (allCl ((l.map Rq.call).take (k + 1)) = stepCl (allCl ((l.map Rq.call).take k)) l[k].call) := allCl_take (by simp [hgk])
      generalize l[k] = rq at *
      obtain ⟨cl, tk, kd, nm, ot, nn⟩ := rq
      simp only [] at d0 d1 d2 d3 d4 d5 hwc
      generalize allCl ((l.map Rq.call).take k) = A at *
      obtain ⟨A1, A2⟩ := A
      simp only [] at ho hh okk lenk
      have hlen2 : A2.length = k := by omega
      go_wp2_with fail
      have e0 : Ext wr (wr.alloc (.cells #[I cl, I tk, I kd, I nm, I ot, I nn] 48)) := (Ext.refl wr).alloc _
      refine (Do_any u4 A1 kd nm ot nn _ (hh.writes.ext e0) okk hwc).mono ?_
      rintro e w2 ⟨r, rfl, e2, u, rfl, hu⟩
      have hu2 := hu.low (b2 := g + 1) (by simp; omega)
      have ho2 := owns_ext ho (e0.trans e2)
      have hgl : g < w2.heap.size := (ho2.lt _ rfl).2
      have f1 : w2.frozen? ⟨g, k * 2, none⟩ = false := ho2.frozenAt _
      have f2 : w2.frozen? ⟨g, k * 2 + 1, none⟩ = false := ho2.frozenAt _
      have c1 := ho2.cellAt (k * 2) (by omega)
      have c2 := ho2.cellAt (k * 2 + 1) (by omega)
      have hfl : (fill A2 l.length).length = l.length := length_fill (by omega)
      rw [(cells2_at (fill A2 l.length) k (by omega)).1] at c1
      rw [(cells2_at (fill A2 l.length) k (by omega)).2] at c2
      generalize ((fill A2 l.length).getD k (0, 0)).1 = z1 at *
      generalize ((fill A2 l.length).getD k (0, 0)).2 = z2 at *
      generalize hD : doCl A1 ⟨kd, nm, ot, nn⟩ = D at *
      have HD : Hid (doCl A1 ⟨kd, nm, ot, nn⟩ = D) := hD
      clear hD
      obtain ⟨D1, D2, D3⟩ := D
      clear d0 d1 d2 d3 d4 d5
      have he3 : Ext w w2 := he.trans (e0.trans e2)
      have hs3 : g + 1 ≤ w2.heap.size := hgl
      clear e0 e2
      go_wp2
      go_roundw
      case rel =>
        have s1 := ho2.stored (k * 2) (I D2)
        have s2 := s1.1.stored (k * 2 + 1) (I D3)
        have hset := cells2_set (fill A2 l.length) k (D2, D3)
        have hfs : (fill A2 l.length).set k (D2, D3) = fill (A2 ++ [(D2, D3)]) l.length := by
          have := fill_set (l := A2) (n := l.length) (by omega) (D2, D3)
          rwa [hlen2] at this
        refine ⟨k + 1, by omega, by go_num, ?_, ?_, by simpa using hs3, (he3.setCell (by rw [HG.out]; exact Nat.le_refl _) _).setCell (by rw [HG.out]; exact Nat.le_refl _) _⟩
        · rw [HT.out]
          simp only [stepCl]
          rw [HD.out, ← hfs, hset]
          exact s2.1
        · rw [HT.out]
          simp only [stepCl]
          rw [HD.out]
          exact (hu2.set (Nat.lt_succ_self g) _ _).set (Nat.lt_succ_self g) _ _
      case measure => simp [intOf]; omega
    · go_wp2
      go_ret2
      have hkl : k = l.length := by omega
      subst hkl
      rw [List.take_of_length_le (by simp)] at ho hh lenk
      rw [fill_all (by omega)] at ho
      exact ⟨_, rfl, he, _, _, rfl, hh.writes, writes_of_owns ho⟩

end Go.Proofs.Ytdmipnnfoolelaa

/- Walks: what the document says a call does, and all calls. -/
import Derived.Test.YtdmipnnfoolelaaR3
import Derived.Test.YtdmipnnfoolelaaR4
import Derived.Test.YtdmipnnfoolelaaR6
namespace Go.Proofs.Ytdmipnnfoolelaa
open Go.RowKit Go.Mk

theorem wDo_any (v : Value) (l : List (Int × Int)) (k a o n : Int) (w : World) (hv : Writes w v l) (hl : Okw l) (hc : wrongCl ⟨k, a, o, n⟩ = 0) :
    Calls Try.prog 25 #[v, .agg #[I k, I a, I o, I n]] w fun e w' => DoesW w v l ⟨k, a, o, n⟩ e w' ∧ Ext w w' := by
  obtain ⟨hk, hn⟩ := wrongCl_zero hc
  by_cases ha : at1 l a < l.length
  · rcases hk with rfl | rfl | rfl | rfl | rfl | rfl
    · exact wDo_put v l a o n w hv hl
    · exact wDo_get v l a o n w hv hl ha
    · exact wDo_drop v l a o n w hv hl ha
    · exact wDo_add v l a o n w hv hl ha (hn (.inr rfl))
    · exact wDo_count v l a o n w hv hl
    · exact wDo_swap v l a o n w hv hl ha
  · rcases hk with rfl | rfl | rfl | rfl | rfl | rfl
    · exact wDo_put v l a o n w hv hl
    · exact wDo_none v l 2 a o n w hv hl (by simp) ha
    · exact wDo_none v l 3 a o n w hv hl (by simp) ha
    · exact wDo_none v l 4 a o n w hv hl (by simp) ha
    · exact wDo_count v l a o n w hv hl
    · exact wDo_none v l 6 a o n w hv hl (by simp) ha

/-- What the document's Do hands back where names are unlike. -/
def DoesR (w : World) (v : Value) (l : List (Int × Int)) (c : Cl) (e : Ending) (w' : World) : Prop :=
  ∃ u, e = .returned (.tuple #[u, (doCl l c).2.val]) ∧ Writes w' u (doCl l c).1 ∧ ∀ base, base ≤ w.heap.size → Has base w v l → Has base w' u (doCl l c).1
theorem rDo_any (v : Value) (l : List (Int × Int)) (k a o n : Int) (w : World) (hv : Writes w v l) (hl : Okn l) (hc : wrongCl ⟨k, a, o, n⟩ = 0) :
    Calls Try.prog 25 #[v, .agg #[I k, I a, I o, I n]] w fun e w' => DoesR w v l ⟨k, a, o, n⟩ e w' ∧ Ext w w' :=
  (wDo_any v l k a o n w hv hl.w hc).mono fun e w' h => by
    have q := h
    unfold DoesW at q
    rw [doR_eq hl] at q
    exact q

set_option maxHeartbeats 1000000 in
theorem rAll_any (v : Value) (l : List Rq) (w : World) (hv : Reqs w v l) (hl : ∀ r ∈ l, wrongCl r.call = 0) (hr : l.length * 48 ≤ 140737488355328) :
    Calls Try.prog 29 #[v] w fun e w' => ∃ r, e = .returned r ∧ Ext w w' ∧ ∃ x y, r = .tuple #[x, y] ∧ Writes w' x (allCl (l.map Rq.call)).1 ∧ Writes w' y (allCl (l.map Rq.call)).2 := by
  obtain ⟨i0, hi, hz0, hz1, hz2⟩ := info_parts Try.infoReply
  obtain ⟨ao, cap, rfl, h1, h2, h3⟩ := hv.form
  unfold maxLen at h2
  have HOK : Hid (∀ k, Okn (allCl ((l.map Rq.call).take k)).1 ∧ (allCl ((l.map Rq.call).take k)).2.length = min k l.length) := fun k => by
    have := all_ok (cs := l.map Rq.call) (fun c hc => by obtain ⟨r, hr, rfl⟩ := List.mem_map.1 hc; exact hl r hr) k
    simpa using this
  have H3 : Hid (∀ k r, l[k]? = some r → ∃ b off, ao = some ⟨b, off, none⟩ ∧ w.cell? ⟨b, off + k * 6, none⟩ = some (I r.client) ∧ w.cell? ⟨b, off + k * 6 + 1, none⟩ = some (I r.token) ∧ w.cell? ⟨b, off + k * 6 + 2, none⟩ = some (I r.call.kind) ∧
      w.cell? ⟨b, off + k * 6 + 3, none⟩ = some (I r.call.name) ∧ w.cell? ⟨b, off + k * 6 + 4, none⟩ = some (I r.call.other) ∧ w.cell? ⟨b, off + k * 6 + 5, none⟩ = some (I r.call.n)) := h3
  clear h3 hv
  go_enter Try.func29, Try.ntmps29
  go_wp2_with fail
  go_loopw [4, 5, 12] (fun nv sv i wr => ∃ k : Nat, k ≤ l.length ∧ i = I k ∧ wr.ownsRow w.heap.size 43 2 sv k (cells2 (allCl ((l.map Rq.call).take k)).2) ∧ Has w.heap.size wr nv (allCl ((l.map Rq.call).take k)).1 ∧ Ext w wr) (fun _ _ i _ => l.length - (intOf i).toNat)
  case atStart => exact ⟨0, by omega, rfl, World.ownsRow_nil _ _ _ _, Has.nil _ _, Ext.refl w⟩
  case round =>
    obtain ⟨k, hk, rfl, ho, hh, he⟩ := hrel
    obtain ⟨okk, lenk⟩ := HOK.out k
    by_cases hlt : k < l.length
    · have hgk : l[k]? = some l[k] := List.getElem?_eq_getElem hlt
      obtain ⟨b, off, rfl, d0, d1, d2, d3, d4, d5⟩ := H3.out k _ hgk
      replace d0 := he.cell d0
      replace d1 := he.cell d1
      replace d2 := he.cell d2
      replace d3 := he.cell d3
      replace d4 := he.cell d4
      replace d5 := he.cell d5
      have hwc : wrongCl l[k].call = 0 := hl _ (List.getElem_mem hlt)
      have HT : Hid (allCl ((l.map Rq.call).take (k + 1)) = stepCl (allCl ((l.map Rq.call).take k)) l[k].call) := allCl_take (by simp [hgk])
      generalize l[k] = rq at *
      obtain ⟨cl, tk, kd, nm, ot, nn⟩ := rq
      simp only [] at d0 d1 d2 d3 d4 d5 hwc
      generalize allCl ((l.map Rq.call).take k) = A at *
      obtain ⟨A1, A2⟩ := A
      simp only [] at ho hh okk lenk
      have hlen2 : A2.length = k := by omega
      go_wp2_with fail
      have e0 : Ext wr (wr.alloc (.cells #[I cl, I tk, I kd, I nm, I ot, I nn] 48)) := (Ext.refl wr).alloc _
      refine (rDo_any u4 A1 kd nm ot nn _ (hh.writes.ext e0) okk hwc).mono ?_
      rintro e w2 ⟨⟨u, rfl, hw2, hu⟩, e2⟩
      have hu2 := hu w.heap.size (Nat.le_trans he.size e0.size) (hh.ext e0)
      have ho2 := owns_ext ho (e0.trans e2)
      have he2 : Ext w w2 := he.trans (e0.trans e2)
      clear hu hw2 d0 d1 d2 d3 d4 d5 hh ho
      generalize hD : doCl A1 ⟨kd, nm, ot, nn⟩ = D at *
      have HD : Hid (doCl A1 ⟨kd, nm, ot, nn⟩ = D) := hD
      clear hD
      obtain ⟨D1, D2, D3⟩ := D
      simp only [] at hu2
      clear e0 e2 he
      go_wp2_with (at_builtin; refine stop_at ?_)
      unfold Hid
      refine wpList_append_row _ rfl (.tmp 24) (.tmp 26) 49 rfl w.heap.size 43 i0 (.agg #[.int .i64 0, .int .i64 0]) 2 16 Try.underlying49 hi hz0 hz1 hz2 rfl (by decide) u5 k (cells2 A2) rfl ((ho2.alloc _).alloc _) _ rfl 1 [I D2, I D3] (writes_lit1 _ _ [(D2, D3)] _ 1 rfl rfl (by decide)) (cells2_one [(D2, D3)]) (by omega) (by decide) (by have := he2.size; simp; omega) ?_
      intro o' w3 ho3 hg3
      have he3 : Ext w w3 := ((he2.alloc _).alloc _).grown hg3 (fun j hj => (ho2.lt j hj).1)
      have hh3 : Has w.heap.size w3 u D1 := (hu2.ext (((Ext.refl w2).alloc _).alloc _)).grown ((ho2.alloc _).alloc _) (by decide) hg3
      clear hg3
      go_wp2
      go_roundw
      case rel =>
        refine ⟨k + 1, by omega, by go_num, ?_, ?_, he3⟩
        · rw [HT.out]
          simp only [stepCl]
          rw [HD.out, cells2_append]
          exact ho3
        · rw [HT.out]
          simp only [stepCl]
          rw [HD.out]
          exact hh3
      case measure => simp [intOf]; omega
    · go_wp2
      go_ret2
      rw [List.take_of_length_le (by simp; omega)] at ho hh
      exact ⟨_, rfl, he, _, _, rfl, hh.writes, writes_of_owns ho⟩

end Go.Proofs.Ytdmipnnfoolelaa

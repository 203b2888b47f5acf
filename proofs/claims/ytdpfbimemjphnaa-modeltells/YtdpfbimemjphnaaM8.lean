/- Walks: which deed a call is, and doing it. -/
import Derived.Test.YtdpfbimemjphnaaM7
import Derived.Test.YtdpfbimemjphnaaMath3
namespace Go.Proofs.Ytdpfbimemjphnaa
open Go.RowKit Go.Mk

theorem wrongCl_zero {k a o n : Int} (h : wrongCl ⟨k, a, o, n⟩ = 0) : (k = 1 ∨ k = 2 ∨ k = 3 ∨ k = 4 ∨ k = 5 ∨ k = 6) ∧ (k = 1 ∨ k = 4 → -1073741824 ≤ n ∧ n ≤ 1073741824) := by
  unfold wrongCl at h
  dsimp only at h
  repeat' split at h
  all_goals first | exact absurd h (by decide) | (constructor <;> omega)

set_option maxHeartbeats 1000000 in
theorem deedOf_any (k a o n : Int) (w : World) (hc : wrongCl ⟨k, a, o, n⟩ = 0) : Calls Try.prog 41 #[.agg #[I k, I a, I o, I n]] w fun e w' => ∃ r, e = .returned r ∧ Ext w w' ∧ DeedP ⟨k, a, o, n⟩ r w' := by
  obtain ⟨hk, hn⟩ := wrongCl_zero hc
  have HN : Hid (k = 1 ∨ k = 4 → -1073741824 ≤ n ∧ n ≤ 1073741824) := hn
  clear hc hn
  have he0 : Ext w (w.alloc (.cells #[I k, I a, I o, I n] 38)) := (Ext.refl w).alloc _
  rcases hk with rfl | rfl | rfl | rfl | rfl | rfl
  · go_enter Try.func41, Try.ntmps41
    go_wp2_with fail
    refine (mkput_any a o n _).mono ?_
    rintro e w1 ⟨r, rfl, he, hd⟩
    go_wp2
    go_ret
    exact ⟨_, rfl, he0.trans he, hd⟩
  · go_enter Try.func41, Try.ntmps41
    go_wp2_with fail
    refine (mkthere_any ⟨2, a, o, n⟩ _ _ (turn_get a o n _) (fun l ha => by rw [doCl_get, if_pos ha])).mono ?_
    rintro e w1 ⟨r, rfl, he, hd⟩
    go_wp2
    go_ret
    exact ⟨_, rfl, he0.trans he, hd⟩
  · go_enter Try.func41, Try.ntmps41
    go_wp2_with fail
    refine (mkthere_any ⟨3, a, o, n⟩ _ _ (turn_drop a o n _) (fun l ha => by rw [doCl_drop, if_pos ha])).mono ?_
    rintro e w1 ⟨r, rfl, he, hd⟩
    go_wp2
    go_ret
    exact ⟨_, rfl, he0.trans he, hd⟩
  · have q1 : (w.alloc (.cells #[I 4, I a, I o, I n] 38)).cell? ⟨w.heap.size, 1, none⟩ = some (I a) := by simp
    have q3 : (w.alloc (.cells #[I 4, I a, I o, I n] 38)).cell? ⟨w.heap.size, 3, none⟩ = some (I n) := by simp
    have HQ1 : Hid _ := q1
    have HQ3 : Hid _ := q3
    clear q1 q3
    go_enter Try.func41, Try.ntmps41
    go_wp2_with fail
    refine wp_region_mono [none, none, none, none, some (.inr (TurnP ⟨4, a, o, n⟩)), some (.inr (DeedP ⟨4, a, o, n⟩)), none] (by kernel_rfl) (by kernel_rfl) ?_ ?_
    · exact ⟨trivial, trivial, trivial, trivial, monoTurn _, monoDeed _, trivial, trivial⟩
    iterate 1 (refine wpM_p (fun K hK => ?_); go_simp; refine hK _ ?_; clear hK K)
    refine wpM_q (I a) rfl (fun w' hw' => by have t1 := hw'.cell HQ1.out; go_simp) ?_
    iterate 1 (refine wpM_p (fun K hK => ?_); go_simp; refine hK _ ?_; clear hK K)
    refine wpM_q (I n) rfl (fun w' hw' => by have t1 := hw'.cell HQ3.out; go_simp) ?_
    refine wpM_l _ rfl (fun w' hw' _ => ?_) (fun v30 => ?_)
    · have hg := mkadd_any a o n w' (HN.out (by simp))
      unfold makes
      go_simp
      exact ⟨Ext.refl _, hg⟩
    refine wpM_l _ rfl (fun w' hw' hk => ?_) (fun v31 => ?_)
    · have h7 : TurnP ⟨4, a, o, n⟩ v30 w' := hk 30 (by decide)
      have hg := mkthere_any ⟨4, a, o, n⟩ v30 w' h7 (fun l ha => by rw [doCl_add, if_pos ha])
      clear hk h7
      unfold makes
      go_simp
      exact ⟨Ext.refl _, hg⟩
    iterate 1 (refine wpM_p (fun K hK => ?_); go_simp; refine hK _ ?_; clear hK K)
    refine wpM_nil ?_
    intro w2 he2 hF
    have hd : DeedP ⟨4, a, o, n⟩ v31 w2 := hF 31
    go_wp2
    go_ret
    exact ⟨_, rfl, he0.trans he2, hd⟩
  · go_enter Try.func41, Try.ntmps41
    go_wp2
    go_ret
    exact ⟨_, rfl, he0, deed_count a o n _⟩
  · have q1 : (w.alloc (.cells #[I 6, I a, I o, I n] 38)).cell? ⟨w.heap.size, 1, none⟩ = some (I a) := by simp
    have q3 : (w.alloc (.cells #[I 6, I a, I o, I n] 38)).cell? ⟨w.heap.size, 2, none⟩ = some (I o) := by simp
    have HQ1 : Hid _ := q1
    have HQ3 : Hid _ := q3
    clear q1 q3
    go_enter Try.func41, Try.ntmps41
    go_wp2_with fail
    refine wp_region_mono [none, none, none, none, some (.inr (TurnP ⟨6, a, o, n⟩)), some (.inr (DeedP ⟨6, a, o, n⟩)), none] (by kernel_rfl) (by kernel_rfl) ?_ ?_
    · exact ⟨trivial, trivial, trivial, trivial, monoTurn _, monoDeed _, trivial, trivial⟩
    iterate 1 (refine wpM_p (fun K hK => ?_); go_simp; refine hK _ ?_; clear hK K)
    refine wpM_q (I a) rfl (fun w' hw' => by have t1 := hw'.cell HQ1.out; go_simp) ?_
    iterate 1 (refine wpM_p (fun K hK => ?_); go_simp; refine hK _ ?_; clear hK K)
    refine wpM_q (I o) rfl (fun w' hw' => by have t1 := hw'.cell HQ3.out; go_simp) ?_
    refine wpM_l _ rfl (fun w' hw' _ => ?_) (fun v30 => ?_)
    · have hg := mkswap_any a o n w'
      unfold makes
      go_simp
      exact ⟨Ext.refl _, hg⟩
    refine wpM_l _ rfl (fun w' hw' hk => ?_) (fun v31 => ?_)
    · have h7 : TurnP ⟨6, a, o, n⟩ v30 w' := hk 38 (by decide)
      have hg := mkthere_any ⟨6, a, o, n⟩ v30 w' h7 (fun l ha => by rw [doCl_swap', if_pos ha])
      clear hk h7
      unfold makes
      go_simp
      exact ⟨Ext.refl _, hg⟩
    iterate 1 (refine wpM_p (fun K hK => ?_); go_simp; refine hK _ ?_; clear hK K)
    refine wpM_nil ?_
    intro w2 he2 hF
    have hd : DeedP ⟨6, a, o, n⟩ v31 w2 := hF 39
    go_wp2
    go_ret
    exact ⟨_, rfl, he0.trans he2, hd⟩

/-- The slice u reads as l, and lies in memory of its own, from base on. -/
def Has (base : Nat) (w : World) (u : Value) (l : List (Int × Int)) : Prop := ∃ x m lo, w.ownsRow base 34 2 x m (cells2 lo) ∧ ∀ w2 : World, w2.ownsRow base 34 2 x m (cells2 lo) → Writes w2 u l
theorem owns_base {w : World} {b1 b2 e size n : Nat} {v : Value} {xs : List Value} (h : w.ownsRow b1 e size v n xs) (hle : b2 ≤ b1) : w.ownsRow b2 e size v n xs := by
  obtain ⟨h1, h2⟩ := h
  refine ⟨h1, ?_⟩
  rcases h2 with h | ⟨g, cap, cur, rfl, hb, hr⟩
  · exact .inl h
  · exact .inr ⟨g, cap, cur, rfl, Nat.le_trans hle hb, hr⟩
theorem Has.writes {base : Nat} {w : World} {u : Value} {l : List (Int × Int)} (h : Has base w u l) : Writes w u l := by
  obtain ⟨x, m, lo, h1, h2⟩ := h
  exact h2 w h1
theorem Has.ext {base : Nat} {w w' : World} {u : Value} {l : List (Int × Int)} (h : Has base w u l) (he : Ext w w') : Has base w' u l := by
  obtain ⟨x, m, lo, h1, h2⟩ := h
  exact ⟨x, m, lo, owns_ext h1 he, h2⟩
theorem Has.nil (base : Nat) (w : World) : Has base w (.slice none 0 0) [] := ⟨.slice none 0 0, 0, [], World.ownsRow_nil _ _ _ _, fun w2 _ => writes_nil w2⟩
theorem Has.set {base : Nat} {w : World} {u : Value} {l : List (Int × Int)} (h : Has base w u l) {b : Nat} (hb : b < base) (i : Nat) (y : Value) : Has base (w.setCell ⟨b, i, none⟩ y) u l := by
  obtain ⟨x, m, lo, h1, h2⟩ := h
  exact ⟨x, m, lo, owns_setCell h1 (fun e => by have := (h1.lt b e).1; omega) i y, h2⟩
/-- .. at whatever lower bound. -/
theorem Has.low {b1 b2 : Nat} {w : World} {u : Value} {l : List (Int × Int)} (h : Has b1 w u l) (hle : b2 ≤ b1) : Has b2 w u l := by
  obtain ⟨x, m, lo, h1, h2⟩ := h
  rcases h1.2 with ⟨rfl, rfl⟩ | ⟨g, cap, cur, rfl, hb, hr⟩
  · exact ⟨_, _, lo, owns_base h1 hle, fun w2 h3 => h2 w2 ⟨h3.1, .inl ⟨rfl, rfl⟩⟩⟩
  · refine ⟨_, _, lo, owns_base h1 hle, fun w2 h3 => h2 w2 ⟨h3.1, ?_⟩⟩
    rcases h3.2 with ⟨e, _⟩ | ⟨g', cap', cur', e, hb', hr'⟩
    · cases e
    · have e2 : g = g' ∧ cap = cap' := by simpa using e
      obtain ⟨rfl, rfl⟩ := e2
      exact .inr ⟨g, cap, cur', rfl, hb, hr'⟩

/-- What a call of Do hands back. -/
def Does (base : Nat) (l : List (Int × Int)) (c : Cl) (r : Value) (w : World) : Prop := ∃ u, r = .tuple #[u, (doCl l c).2.val] ∧ Has base w u (doCl l c).1

set_option maxHeartbeats 400000 in
theorem Do_any (v : Value) (l : List (Int × Int)) (k a o n : Int) (w : World) (hv : Writes w v l) (hl : Okn l) (hc : wrongCl ⟨k, a, o, n⟩ = 0) : Calls Try.prog 24 #[v, .agg #[I k, I a, I o, I n]] w fun e w' => ∃ r, e = .returned r ∧ Ext w w' ∧ Does w.heap.size l ⟨k, a, o, n⟩ r w' := by
  have he0 : Ext w ((w.alloc (.cells #[I k, I a, I o, I n] 38)).alloc (.cells #[I 0, I 0] 43)) := ((Ext.refl w).alloc _).alloc _
  have hbx : ((w.alloc (.cells #[I k, I a, I o, I n] 38)).alloc (.cells #[I 0, I 0] 43)).heap[w.heap.size + 1]? = some (.cells #[I 0, I 0] 43) := by
    have := heap_alloc_new (w.alloc (.cells #[I k, I a, I o, I n] 38)) (.cells #[I 0, I 0] 43)
    simpa using this
  have HBX : Hid _ := hbx
  clear hbx
  go_enter Try.func24, Try.ntmps24
  go_wp2_with fail
  refine (deedOf_any k a o n _ hc).mono ?_
  rintro e w1 ⟨r, rfl, e1, F, caps, rfl, hE, hF⟩
  have HF : Hid _ := hF
  clear hF
  unfold Enters at hE
  have hw1 : Ext w w1 := he0.trans e1
  go_wp2_with fail
  refine (mown_any v l w1 (hv.ext hw1) (by have := hl.len; omega)).mono ?_
  rintro e w2 ⟨rfl, ho, e2⟩
  have hs1 : w.heap.size + 1 < w1.heap.size := by have := e1.size; simp at this; omega
  generalize hgs : w1.heap.size = g at *
  go_wp2_with fail
  refine (HF.out l g w2 e2 ho hl).mono ?_
  rintro e w3 ⟨u, x, m, lo, rfl, hov, hu, hgr⟩
  have hb3 : w3.heap[w.heap.size + 1]? = some (.cells #[I 0, I 0] 43) := by
    rw [hgr.block (w.heap.size + 1) (by have := e2.size; omega) (fun e => by have e2 : w.heap.size + 1 = g := Option.some.inj e; omega), e2.block _ (by omega), e1.block _ (by simp)]
    exact HBX.out
  obtain ⟨c0, c1, f0, f1⟩ := box_of hb3 (Ext.refl w3)
  have hw3 : Ext w w3 := (hw1.trans e2).grown hgr (fun k hk => by cases hk; omega)
  clear hE
  generalize hD : doCl l ⟨k, a, o, n⟩ = D at *
  have HD : Hid (doCl l ⟨k, a, o, n⟩ = D) := hD
  clear hD
  obtain ⟨D1, D2, D3⟩ := D
  go_wp2
  try simp only [Exit.inBlock, Exit.then]
  refine bodyPost_ret (by simp [results, Try.results24, go_sem, c0, c1]; rfl) rfl ?_
  have hne := own_ne hov hb3 (by decide)
  refine ⟨_, rfl, (hw3.setCell (Nat.le_succ _) _).setCell (Nat.le_succ _) _, u, ?_, ?_⟩
  · rw [HD.out]
  · rw [HD.out]; exact Has.low ⟨x, m, lo, owns_setCell (owns_setCell hov hne _ _) hne _ _, hu⟩ (by omega)

end Go.Proofs.Ytdpfbimemjphnaa

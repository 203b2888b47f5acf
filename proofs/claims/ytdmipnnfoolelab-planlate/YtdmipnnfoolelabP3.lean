/- Walks: calls as writes. -/
import Derived.Test.YtdmipnnfoolelabP2b
import Derived.Lib.Hide
namespace Go.Proofs.Ytdmipnnfoolelab
open Go.RowKit Go.Mk

/-- What a call of Make hands back. -/
def Plans (l : List (Int × Int)) (c : Cl) (e : Ending) (w : World) : Prop := ∃ u, e = .returned (.tuple #[u, (doCl l c).2.val]) ∧ Writes w u (planCl l c)

/-- What is known when the document's Plan has asked Of, Do and Find. -/
def PlansH (base : Nat) (l : List (Int × Int)) (c : Cl) (e : Ending) (w : World) : Prop := ∃ u, e = .returned (.tuple #[u, (doCl l c).2.val]) ∧ Has base w u (planCl l c)
theorem pboxes {w : World} {o1 o2 : Obj} {wx : World} {v0 v1 v2 v3 : Value} (h1 : o1 = .cells #[v0, v1, v2, v3] 24 (0, 0)) (h2 : o2 = .cells #[I 0, I 0] 30 (0, 0)) (hx : Ext ((w.alloc o1).alloc o2) wx) :
    (wx.cell? ⟨w.heap.size, 0, none⟩ = some v0 ∧ wx.cell? ⟨w.heap.size, 1, none⟩ = some v1 ∧ wx.cell? ⟨w.heap.size, 2, none⟩ = some v2 ∧ wx.cell? ⟨w.heap.size, 3, none⟩ = some v3) ∧ wx.heap[w.heap.size + 1]? = some (.cells #[I 0, I 0] 30 (0, 0)) := by
  subst h1 h2
  have p0 : ((w.alloc (.cells #[v0, v1, v2, v3] 24 (0, 0))).alloc (.cells #[I 0, I 0] 30 (0, 0))).heap[w.heap.size]? = some (.cells #[v0, v1, v2, v3] 24 (0, 0)) := by
    rw [heap_alloc_old _ _ (by simp)]; exact heap_alloc_new _ _
  have p1 : ((w.alloc (.cells #[v0, v1, v2, v3] 24 (0, 0))).alloc (.cells #[I 0, I 0] 30 (0, 0))).heap[w.heap.size + 1]? = some (.cells #[I 0, I 0] 30 (0, 0)) := by
    have := heap_alloc_new (w.alloc (.cells #[v0, v1, v2, v3] 24 (0, 0))) (.cells #[I 0, I 0] 30 (0, 0))
    simpa using this
  refine ⟨⟨hx.cell (cell_block p0 rfl), hx.cell (cell_block p0 rfl), hx.cell (cell_block p0 rfl), hx.cell (cell_block p0 rfl)⟩, ?_⟩
  rw [hx.block _ (by simp)]
  exact p1

theorem Does.low {b1 b2 : Nat} {l : List (Int × Int)} {c : Cl} {r : Value} {w : World} (h : Does b1 l c r w) (hle : b2 ≤ b1) : Does b2 l c r w := by
  obtain ⟨u, e, h⟩ := h
  exact ⟨u, e, h.low hle⟩

theorem monoDoes (b : Nat) (l : List (Int × Int)) (c : Cl) : ∀ v, MonoP (fun w => Does b l c v w) := fun _ _ _ he ⟨u, e, h⟩ => ⟨u, e, h.ext he⟩

/-- A new box of two cells. -/
def Box (base : Nat) (t : TypeId) (x y : Value) (v : Value) (w : World) : Prop := ∃ b, v = .pointer (some ⟨b, 0, none⟩) ∧ base ≤ b ∧ w.heap[b]? = some (.cells #[x, y] t (0, 0))

theorem monoBox (base : Nat) (t : TypeId) (x y : Value) : ∀ v, MonoP (Box base t x y v) := fun _ _ _ he ⟨b, e, h1, h2⟩ => ⟨b, e, h1, by rw [he.block b (Array.getElem?_eq_some_iff.1 h2).1]; exact h2⟩

theorem box_new {w : World} {base : Nat} {t : TypeId} {x y : Value} (h : base ≤ w.heap.size) : Box base t x y (.pointer (some ⟨w.heap.size, 0, none⟩)) (w.alloc (.cells #[x, y] t)) := ⟨_, rfl, h, heap_alloc_new _ _⟩

theorem Has.box {base : Nat} {w : World} {u : Value} {l : List (Int × Int)} (h : Has base w u l) {b : Nat} {cs : Array Value} {t : TypeId} (hb : w.heap[b]? = some (.cells cs t (0, 0))) (hne : (43 : Nat) ≠ t) (i : Nat) (y : Value) : Has base (w.setCell ⟨b, i, none⟩ y) u l := by
  obtain ⟨x, m, lo, h1, h2⟩ := h
  exact ⟨x, m, lo, owns_setCell h1 (own_ne h1 hb hne) i y, h2⟩

theorem Has.box2 {base : Nat} {w : World} {u : Value} {l : List (Int × Int)} (h : Has base w u l) {b : Nat} {p q : Value} {t : TypeId} (hb : w.heap[b]? = some (.cells #[p, q] t (0, 0))) (hne : (43 : Nat) ≠ t) (x y : Value) : Has base ((w.setCell ⟨b, 0, none⟩ x).setCell ⟨b, 1, none⟩ y) u l :=
  (h.box hb hne 0 x).box (heap_setCell_same _ _ 0 _ _ x hb) hne 1 y

set_option maxRecDepth 100000 in
set_option maxHeartbeats 1000000 in
theorem MakeW_any (v : Value) (xs : List Int) (k a o n : Int) (w : World) (hv : Ints w v xs) (hx : Weak xs) (hc : wrongCl ⟨k, a, o, n⟩ = 0) :
    Calls Try.prog 8 #[v, .agg #[I k, I a, I o, I n]] w fun e w' => PlansH w.heap.size (ofCells xs (xs.getD 0 0).toNat) ⟨k, a, o, n⟩ e w' ∧ Ext w w' := by
  obtain ⟨hl11, hx0, hx5, hok⟩ := id hx
  have hO := fun wx (h : Ext w wx) => OfW_any v xs wx (hv.ext h) hx.c
  have hF := fun nm wx (h : Ext w wx) => Find_any v xs nm wx (hv.ext h) (by omega)
  have hD := fun u wx h => DoW_any u (ofCells xs (xs.getD 0 0).toNat) k a o n wx h hok hc
  have hent : (entriesOf xs).toNat = (ofCells xs (xs.getD 0 0).toNat).length := by
    rw [length_ofCells]; unfold entriesOf; rw [if_neg (by omega)]; omega
  simp only [hent] at hF
  have HFA := Lib.hid (find_at1 xs a (xs.getD 0 0).toNat)
  have HFO := Lib.hid (find_at1 xs o (xs.getD 0 0).toNat)
  generalize hL : ofCells xs (xs.getD 0 0).toNat = l at *
  have HLN : Hid (l.length = (xs.getD 0 0).toNat) := by unfold Hid; rw [← hL, length_ofCells]
  have HOK : Hid (Okw l) := hok
  have HC : Hid (wrongCl ⟨k, a, o, n⟩ = 0) := hc
  have HL : Hid (ofCells xs (xs.getD 0 0).toNat = l) := hL
  clear hv hx hl11 hx0 hx5 hok hc hL hent
  have e0 : Ext w ((w.alloc (.cells #[I k, I a, I o, I n] 24)).alloc (.cells #[I 0, I 0] 30)) := ((Ext.refl w).alloc _).alloc _
  have HB : Hid (∀ wx, Ext ((w.alloc (.cells #[I k, I a, I o, I n] 24)).alloc (.cells #[I 0, I 0] 30)) wx → (wx.cell? ⟨w.heap.size, 0, none⟩ = some (I k) ∧ wx.cell? ⟨w.heap.size, 1, none⟩ = some (I a) ∧ wx.cell? ⟨w.heap.size, 2, none⟩ = some (I o) ∧ wx.cell? ⟨w.heap.size, 3, none⟩ = some (I n)) ∧
      wx.heap[w.heap.size + 1]? = some (.cells #[I 0, I 0] 30 (0, 0))) := fun wx hx => pboxes rfl rfl hx
  generalize hw0 : (w.alloc (.cells #[I k, I a, I o, I n] 24)).alloc (.cells #[I 0, I 0] 30) = w0 at *
  have HW0 := Lib.hid hw0
  have HSZ : Hid (w0.heap.size = w.heap.size + 2) := by unfold Hid; rw [← hw0]; simp
  go_enter Try.func8, Try.ntmps8
  go_wp2_with fail
  clear hw0
  obtain ⟨⟨c0, c1, c2, c3⟩, -⟩ := HB.out w0 (Ext.refl _)
  refine wp_region_mono_tail 9 [none, some (.inr fun v w => Writes w v l), none, some (.inr fun r wx => Does w0.heap.size l ⟨k, a, o, n⟩ r wx), some (.inr fun r wx => Does w0.heap.size l ⟨k, a, o, n⟩ r wx), some (.inr fun u wx => Has w0.heap.size wx u (doCl l ⟨k, a, o, n⟩).1), some (.inl (doCl l ⟨k, a, o, n⟩).2.val), some (.inr (Box w0.heap.size 30 (I 0) (I 0))), none] (by kernel_rfl) (by kernel_rfl) ?_ ?_
  · exact ⟨trivial, monoWrites _, trivial, monoDoes _ _ _, monoDoes _ _ _, monoHas _ _, trivial, monoBox _ _ _ _, trivial, trivial⟩
  iterate 1 (refine wpM_p (fun K hK => ?_); go_simp; refine hK _ ?_; clear hK K)
  refine wpM_l _ rfl (fun w' hw' _ => ?_) (fun v10 => ?_)
  · have hg := hO w' (e0.trans hw')
    unfold makes
    go_simp
    exact ⟨Ext.refl _, hg⟩
  refine wpM_q (.agg #[I k, I a, I o, I n]) rfl (fun w' hw' => by have q0 := hw'.cell c0; have q1 := hw'.cell c1; have q2 := hw'.cell c2; have q3 := hw'.cell c3; go_simp) ?_
  refine wpM_l _ rfl (fun w' hw' hk => ?_) (fun v12 => ?_)
  · have h7 : Writes w' v10 l := hk 10 (by decide)
    have hg := Calls.mono (hD v10 w' h7) (fun e w'' ⟨r, he, hx, hd⟩ => (⟨r, he, hx, hd.low hw'.size⟩ : ∃ r, e = Ending.returned r ∧ Ext w' w'' ∧ Does w0.heap.size l ⟨k, a, o, n⟩ r w''))
    clear hk h7
    unfold makes
    go_simp
    exact ⟨Ext.refl _, hg⟩
  refine wpM_l _ rfl (fun w' hw' hk => ?_) (fun v8 => ?_)
  · have h7 : Does w0.heap.size l ⟨k, a, o, n⟩ v12 w' := hk 12 (by decide)
    clear hk
    unfold makes
    go_simp
    exact ⟨Ext.refl _, h7⟩
  refine wpM_l _ rfl (fun w' hw' hk => ?_) (fun v13 => ?_)
  · obtain ⟨u, rfl, h7⟩ : Does w0.heap.size l ⟨k, a, o, n⟩ v8 w' := hk 8 (by decide)
    clear hk
    unfold makes
    go_simp
    exact ⟨Ext.refl _, h7⟩
  refine wpM_x _ rfl (fun w' hw' hk => ?_) ?_
  · obtain ⟨u, rfl, h7⟩ : Does w0.heap.size l ⟨k, a, o, n⟩ v8 w' := hk 8 (by decide)
    clear hk
    unfold makes
    go_simp
    exact ⟨Ext.refl _, rfl⟩
  refine wpM_l _ rfl (fun w' hw' hk => ?_) (fun v7 => ?_)
  · clear hk
    unfold makes
    go_simp
    exact ⟨(Ext.refl _).alloc _, box_new hw'.size⟩
  iterate 1 (refine wpM_p (fun K hK => ?_); go_simp; refine hK _ ?_; clear hK K)
  refine wpM_nil ?_
  intro w1 e1 hX
  have hh : Has w0.heap.size w1 v13 (doCl l ⟨k, a, o, n⟩).1 := hX 13
  obtain ⟨b, rfl, hb0, hb1⟩ : Box w0.heap.size 30 (I 0) (I 0) v7 w1 := hX 7
  clear hX c0 c1 c2 c3
  obtain ⟨hbx1, hbx2⟩ := HB.out w1 e1
  have hbs : w.heap.size + 1 < w0.heap.size := by have := HSZ.out; omega
  have hdl : (doCl l ⟨k, a, o, n⟩).1.length ≤ 5 := len_do HOK.out.len
  have hdn : (doCl l ⟨k, a, o, n⟩).2.err ≠ 0 → planCl l ⟨k, a, o, n⟩ = [] := fun h => if_pos h
  have hdz : (doCl l ⟨k, a, o, n⟩).2.err = 0 → planCl l ⟨k, a, o, n⟩ = planX l ⟨k, a, o, n⟩ := fun h => if_neg (by simp [h])
  generalize hDD : doCl l ⟨k, a, o, n⟩ = D at *
  have HD := Lib.hid hDD
  clear hDD
  obtain ⟨D1, D2, D3⟩ := D
  simp only [] at hh hdl hdn hdz
  obtain ⟨x0, x1, f0, f1⟩ := box_of hb1 (Ext.refl _)
  have HP : Hid (∀ wx u, Ext w w1 → D2 = 0 → Writes wx u D1 → Gives Try.prog 17 #[u, I k, I (atI l a), I (atI l o)] wx fun r w' => Has wx.heap.size w' r (planX l ⟨k, a, o, n⟩)) := fun wx u _ hz hu => by
    have hz2 : (doCl l ⟨k, a, o, n⟩).2.err = 0 := by rw [HD.out]; exact hz
    exact pwrites_plan u l k a o n wx HC.out HOK.out hz2 (by rw [HD.out]; exact hu)
  have hFa := fun wx h => hF a wx h
  have hFo := fun wx h => hF o wx h
  rw [HLN.out, HFA.out, ← HLN.out] at hFa
  rw [HLN.out, HFO.out, ← HLN.out] at hFo
  have e2 : Ext w0 ((w1.setCell ⟨b, 0, none⟩ (I D2)).setCell ⟨b, 1, none⟩ (I D3)) := (e1.setCell hb0 _).setCell hb0 _
  have hh2 := hh.box2 hb1 (by decide) (I D2) (I D3)
  have hb2 := wset2 hb1 (I D2) (I D3)
  have hww : Ext w w1 := e0.trans e1
  clear hbx1 hbx2 hh hb1 hO hD hF hdl e1
  by_cases hz : D2 = 0
  case neg =>
    have hbz : (D2 != 0) = true := by simpa using hz
    have hpl := hdn hz
    clear hdn hdz hz hFa hFo HP
    go_wp2_with fail
    clear x0 x1 f0 f1
    generalize hw2 : (w1.setCell ⟨b, 0, none⟩ (I D2)).setCell ⟨b, 1, none⟩ (I D3) = w2 at *
    clear hw2
    obtain ⟨-, rb⟩ := HB.out w2 e2
    obtain ⟨y0, y1, g0, g1⟩ := box_of hb2 (Ext.refl _)
    refine wp_region_mono_tail 2 [none, none] (by kernel_rfl) (by kernel_rfl) ?_ ?_
    · exact ⟨trivial, trivial, trivial⟩
    refine wpM_q (.agg #[I D2, I D3]) rfl (fun w' hw' => by have q0 := hw'.cell y0; have q1 := hw'.cell y1; go_simp) ?_
    iterate 1 (refine wpM_p (fun K hK => ?_); go_simp; refine hK _ ?_; clear hK K)
    refine wpM_nil ?_
    intro w4 he4 _
    clear y0 y1 g0 g1
    have rb4 : w4.heap[w.heap.size + 1]? = some (.cells #[I 0, I 0] 30 (0, 0)) := (HB.out w4 (e2.trans he4)).2
    obtain ⟨x0, x1, f0, f1⟩ := box_of rb4 (Ext.refl _)
    go_wp2
    obtain ⟨z0, z1, -, -⟩ := box_of (wset2 rb4 (I D2) (I D3)) (Ext.refl _)
    clear x0 x1 f0 f1
    refine bodyPost_ret (by simp [results, Try.results8, go_sem, z0, z1]; rfl) rfl ?_
    refine ⟨⟨_, by rw [HD.out], by rw [hpl]; exact Has.nil _ _⟩, ((e0.trans (e2.trans he4)).setCell (by simp only []; omega) _).setCell (by simp only []; omega) _⟩
  subst hz
  have hpl := hdz rfl
  clear hdn hdz
  go_wp2_with fail
  clear x0 x1 f0 f1
  generalize hw2 : (w1.setCell ⟨b, 0, none⟩ (I 0)).setCell ⟨b, 1, none⟩ (I D3) = w2 at *
  clear hw2
  obtain ⟨⟨c0, c1, c2, c3⟩, -⟩ := HB.out w2 e2
  obtain ⟨y0, y1, g0, g1⟩ := box_of hb2 (Ext.refl _)
  have ha : (if at1 l a < l.length then (at1 l a : Int) else -1) = atI l a := rfl
  have ho : (if at1 l o < l.length then (at1 l o : Int) else -1) = atI l o := rfl
  rw [ha] at hFa
  rw [ho] at hFo
  clear ha ho
  generalize atI l a = fa at *
  generalize atI l o = fo at *
  refine wp_region_mono_tail 14 [none, none, none, none, none, none, some (.inl (I fa)), none, none, none, some (.inl (I fo)), some (.inr fun r wx => Has w0.heap.size wx r (planX l ⟨k, a, o, n⟩)), none, none] (by kernel_rfl) (by kernel_rfl) ?_ ?_
  · exact ⟨trivial, trivial, trivial, trivial, trivial, trivial, trivial, trivial, trivial, trivial, trivial, monoHas _ _, trivial, trivial, trivial⟩
  iterate 2 (refine wpM_p (fun K hK => ?_); go_simp; refine hK _ ?_; clear hK K)
  refine wpM_q (I k) rfl (fun w' hw' => by have q0 := hw'.cell c0; go_simp) ?_
  iterate 2 (refine wpM_p (fun K hK => ?_); go_simp; refine hK _ ?_; clear hK K)
  refine wpM_q (I a) rfl (fun w' hw' => by have q0 := hw'.cell c1; go_simp) ?_
  refine wpM_x _ rfl (fun w' hw' _ => ?_) ?_
  · have hg := gives_same (hFa w' (e0.trans (e2.trans hw')))
    unfold makes
    go_simp
    exact ⟨Ext.refl _, hg⟩
  iterate 2 (refine wpM_p (fun K hK => ?_); go_simp; refine hK _ ?_; clear hK K)
  refine wpM_q (I o) rfl (fun w' hw' => by have q0 := hw'.cell c2; go_simp) ?_
  refine wpM_x _ rfl (fun w' hw' _ => ?_) ?_
  · have hg := gives_same (hFo w' (e0.trans (e2.trans hw')))
    unfold makes
    go_simp
    exact ⟨Ext.refl _, hg⟩
  refine wpM_l _ rfl (fun w' hw' _ => ?_) (fun v30 => ?_)
  · have hg := (HP.out w' v13 hww trivial (hh2.writes.ext hw')).mono (fun r wx _ hr => Has.low hr (Nat.le_trans e2.size hw'.size))
    unfold makes
    go_simp
    exact ⟨Ext.refl _, hg⟩
  refine wpM_q (.agg #[I 0, I D3]) rfl (fun w' hw' => by have q0 := hw'.cell y0; have q1 := hw'.cell y1; go_simp) ?_
  iterate 1 (refine wpM_p (fun K hK => ?_); go_simp; refine hK _ ?_; clear hK K)
  refine wpM_nil ?_
  intro w4 he4 hX
  have hr : Has w0.heap.size w4 v30 (planX l ⟨k, a, o, n⟩) := hX 30
  clear y0 y1 g0 g1 c0 c1 c2 c3 hX HP
  have rb4 : w4.heap[w.heap.size + 1]? = some (.cells #[I 0, I 0] 30 (0, 0)) := (HB.out w4 (e2.trans he4)).2
  obtain ⟨x0, x1, f0, f1⟩ := box_of rb4 (Ext.refl _)
  go_wp2
  obtain ⟨z0, z1, -, -⟩ := box_of (wset2 rb4 (I 0) (I D3)) (Ext.refl _)
  clear x0 x1 f0 f1
  refine bodyPost_ret (by simp [results, Try.results8, go_sem, z0, z1]; rfl) rfl ?_
  refine ⟨⟨_, by rw [HD.out], by rw [hpl]; exact (hr.box2 rb4 (by decide) _ _).low (by have := HSZ.out; omega)⟩, ((e0.trans (e2.trans he4)).setCell (by simp only []; omega) _).setCell (by simp only []; omega) _⟩

theorem Make_any (v : Value) (xs : List Int) (k a o n : Int) (w : World) (hv : Ints w v xs) (hx : wrongOf xs = 0) (hc : wrongCl ⟨k, a, o, n⟩ = 0) :
    Calls Try.prog 8 #[v, .agg #[I k, I a, I o, I n]] w fun e w' => Plans (ofCells xs (xs.getD 0 0).toNat) ⟨k, a, o, n⟩ e w' ∧ Ext w w' :=
  (MakeW_any v xs k a o n w hv (weak_of hx) hc).mono fun _ _ h => ⟨⟨h.1.choose, h.1.choose_spec.1, h.1.choose_spec.2.writes⟩, h.2⟩

end Go.Proofs.Ytdmipnnfoolelab

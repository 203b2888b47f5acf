/- Walk: TextTells. -/
import Derived.Test.YtdmipnnfoolelabDoorT10
import Derived.Test.YtdmipnnfoolelabDoorD8
namespace Go.Proofs.YtdmipnnfoolelabDoor
open Go.RowKit Go.Mk

theorem cls_two {w : World} (c : Cl) : Cls (w.alloc (.cells #[I c.kind, I c.name, I c.other, I c.n, I c.kind, I c.name, I c.other, I c.n] 23)) (.slice (some ⟨w.heap.size, 0, none⟩) 2 2) [c, c] := by
  have := World.ownsRow_lit (base := 0) (e := 23) (size := 4) w #[I c.kind, I c.name, I c.other, I c.n, I c.kind, I c.name, I c.other, I c.n] 2 (Nat.zero_le _) (by decide) rfl
  exact cls_of_owns (l := [c, c]) this
theorem monoCls (l : List Cl) : ∀ v, MonoP (fun w => Cls w v l) := fun _ _ _ he h => Cls.ext h he

set_option maxRecDepth 100000 in
set_option maxHeartbeats 8000000 in
theorem TextTells_any (s : Bs) (k a o n : Int) (hs : s.length ≤ 10000000) (w : World) (hv : Vars w) :
    Calls Tryd.prog 3 #[S s, .agg #[I k, I a, I o, I n]] w fun e w' => e = .returned (.bool true) ∧ Ext w w' := by
  have r1 := fun wx hx => readCall_any s (by omega) wx hx
  have r2 := fun wx hx => refReadCall_any s hs wx hx
  have p1 := fun wx hx => parse_at_call s (by omega) wx hx
  have p2 := fun wx hx => refParse_any s hs wx hx
  generalize readCl s = q at r1 r2
  generalize parseCl s = p at p1 p2
  obtain ⟨⟨ck, ca, co, cn⟩, er⟩ := q
  obtain ⟨l, ep⟩ := p
  simp only [] at r1 r2 p1 p2
  have hst : Tryd.prog.stoodInHeld 23 = false := by kernel_rfl
  have hgd : Tryd.prog.eqGuardType Tryd.prog.depth 23 = false := by kernel_rfl
  go_enter Tryd.func3, Tryd.ntmps3
  go_wp2_with (first
    | (go_at_call 6; refine Calls.exts (r1 _ (hv.ext ((Ext.refl w).alloc _))) ?_; intro w1 e1; have b0 := block_ext e1; have m1 : Ext w w1 := ((Ext.refl w).alloc _).trans e1)
    | (go_at_call 7; refine Calls.exts (r2 _ (hv.ext (m1.alloc _))) ?_; intro w2 e2; have bA := block_ext e2; have m2 := (m1.alloc _).trans e2; have hne : w1.heap.size ≠ w2.heap.size := by have := (Array.getElem?_eq_some_iff.1 bA).1; omega
       have xa := fun ob => box4 (block_of bA ((Ext.refl w2).alloc ob)); have xa0 := fun ob => (xa ob).1; have xa1 := fun ob => (xa ob).2.1; have xa2 := fun ob => (xa ob).2.2.1; have xa3 := fun ob => (xa ob).2.2.2.1; clear xa)
    | (go_at_call 8; refine (p1 _ (hv.ext (m2.alloc _))).mono ?_; rintro e w3 ⟨ao1, cap1, rfl, e3, hc1⟩; have m3 := (m2.alloc _).trans e3)
    | (go_at_call 9; refine (p2 _ (hv.ext m3)).mono ?_; rintro e w4 ⟨ao2, cap2, rfl, e4, hc2⟩; have m4 := m3.trans e4)
    | (go_at_call 10; refine Calls.exts (sameCalls_any _ _ l _ (hc1.ext e4) hc2) ?_; intro w5 e5; have m5 := m4.trans e5))
  have HC : Hid (∀ wx, Ext w5 wx → wx.cell? ⟨w.heap.size, 0, none⟩ = some (I k) ∧ wx.cell? ⟨w.heap.size, 1, none⟩ = some (I a) ∧ wx.cell? ⟨w.heap.size, 2, none⟩ = some (I o) ∧ wx.cell? ⟨w.heap.size, 3, none⟩ = some (I n)) := fun wx hx => by
    obtain ⟨x0, x1, x2, x3, -⟩ := box4 (block_of b0 (((((((Ext.refl w1).alloc _).trans e2).alloc _).trans e3).trans e4).trans (e5.trans hx)))
    exact ⟨x0, x1, x2, x3⟩
  have hvx := fun wx (hx : Ext w5 wx) => hv.ext (m5.trans hx)
  clear r1 r2 p1 p2 b0 bA e1 e2 e3 e4 e5 m1 m2 m3 m4 hc1 hc2 xa0 xa1 xa2 xa3 hne hst hgd
  have hwc := fun wx => refWrongCall_any k a o n wx
  by_cases hw0 : wrongCl ⟨k, a, o, n⟩ = 0
  case neg =>
    have hwb : (wrongCl ⟨k, a, o, n⟩ == 0) = false := by simpa using hw0
    have hwn : (wrongCl ⟨k, a, o, n⟩ != 0) = true := by simpa using hw0
    generalize wrongCl ⟨k, a, o, n⟩ = er2 at *
    refine wp_region_mono [none, some (.inl (I er2)), none, none, none, none, none, none, none, none, none, none, none, none, none, none, none, none, none, none, none, none] (by kernel_rfl) (by kernel_rfl) ?_ ?_
    · exact ⟨trivial, trivial, trivial, trivial, trivial, trivial, trivial, trivial, trivial, trivial, trivial, trivial, trivial, trivial, trivial, trivial, trivial, trivial, trivial, trivial, trivial, trivial, trivial⟩
    refine wpM_q (.agg #[I k, I a, I o, I n]) rfl (fun w' hw' => by obtain ⟨d0, d1, d2, d3⟩ := HC.out w' hw'; go_simp) ?_
    refine wpM_x _ rfl (fun w' hw' _ => ?_) ?_
    · have hg := gives_exts (hwc w')
      unfold makes
      go_simp
      exact ⟨Ext.refl _, hg⟩
    iterate 20 (refine wpM_p (fun K hK => ?_); go_simp; first | refine hK _ ?_ | refine ⟨(fun h => by cases h), hK _ ?_⟩; clear hK K)
    refine wpM_nil ?_
    intro w6 he6 _
    go_wp2
    go_ret
    exact ⟨rfl, m5.trans he6⟩
  have cC := fun wx (hx : Ext w5 wx) => call_any ⟨k, a, o, n⟩ hw0 wx (hvx wx hx)
  have cR := fun wx (hx : Ext w5 wx) => refCallText_any ⟨k, a, o, n⟩ hw0 wx (hvx wx hx)
  have hall : ∀ c ∈ [(⟨k, a, o, n⟩ : Cl), ⟨k, a, o, n⟩], wrongCl c = 0 := fun c hc => by
    simp at hc
    rw [hc]
    exact hw0
  have cP := fun wx v (hx : Ext w5 wx) (hc : Cls wx v [⟨k, a, o, n⟩, ⟨k, a, o, n⟩]) => print_any v _ wx hc hall (by simp) (hvx wx hx)
  have cQ := fun wx v (hx : Ext w5 wx) (hc : Cls wx v [⟨k, a, o, n⟩, ⟨k, a, o, n⟩]) => refPrint_any v _ wx hc hall (by simp) (hvx wx hx)
  rw [hw0] at hwc
  clear hall hw0 hvx
  generalize callText ⟨k, a, o, n⟩ = T at *
  generalize printCl [⟨k, a, o, n⟩, ⟨k, a, o, n⟩] = PP at *
  refine wp_region_mono [none, some (.inl (I 0)), none, none, none, some (.inl (S T)), none, some (.inl (S T)), none, none, none, none, some (.inr fun v wx => Cls wx v [⟨k, a, o, n⟩, ⟨k, a, o, n⟩]), some (.inl (S PP)), none, none, some (.inr fun v wx => Cls wx v [⟨k, a, o, n⟩, ⟨k, a, o, n⟩]), some (.inl (S PP)), none, none, none, none] (by kernel_rfl) (by kernel_rfl) ?_ ?_
  · exact ⟨trivial, trivial, trivial, trivial, trivial, trivial, trivial, trivial, trivial, trivial, trivial, trivial, monoCls _, trivial, trivial, trivial, monoCls _, trivial, trivial, trivial, trivial, trivial, trivial⟩
  refine wpM_q (.agg #[I k, I a, I o, I n]) rfl (fun w' hw' => by obtain ⟨d0, d1, d2, d3⟩ := HC.out w' hw'; go_simp) ?_
  refine wpM_norm (fun K hK => ?_); go_simp; refine hK _ ?_; clear hK K
  refine wpM_x _ rfl (fun w' hw' _ => ?_) ?_
  · have hg := gives_exts (hwc w')
    unfold makes
    go_simp
    exact ⟨Ext.refl _, hg⟩
  refine wpM_norm (fun K hK => ?_); go_simp; refine hK _ ?_; clear hK K
  iterate 2 (refine wpM_p (fun K hK => ?_); go_simp; refine hK _ ?_; clear hK K)
  refine wpM_q (.agg #[I k, I a, I o, I n]) rfl (fun w' hw' => by obtain ⟨d0, d1, d2, d3⟩ := HC.out w' hw'; go_simp) ?_
  refine wpM_norm (fun K hK => ?_); go_simp; refine hK _ ?_; clear hK K
  refine wpM_x _ rfl (fun w' hw' _ => ?_) ?_
  · have hg := gives_exts (cC w' hw')
    unfold makes
    go_simp
    exact ⟨Ext.refl _, hg⟩
  refine wpM_norm (fun K hK => ?_); go_simp; refine hK _ ?_; clear hK K
  refine wpM_q (.agg #[I k, I a, I o, I n]) rfl (fun w' hw' => by obtain ⟨d0, d1, d2, d3⟩ := HC.out w' hw'; go_simp) ?_
  refine wpM_norm (fun K hK => ?_); go_simp; refine hK _ ?_; clear hK K
  refine wpM_x _ rfl (fun w' hw' _ => ?_) ?_
  · have hg := gives_exts (cR w' hw')
    unfold makes
    go_simp
    exact ⟨Ext.refl _, hg⟩
  refine wpM_norm (fun K hK => ?_); go_simp; refine hK _ ?_; clear hK K
  iterate 2 (refine wpM_p (fun K hK => ?_); go_simp; refine hK _ ?_; clear hK K)
  iterate 2 (refine wpM_q (.agg #[I k, I a, I o, I n]) rfl (fun w' hw' => by obtain ⟨d0, d1, d2, d3⟩ := HC.out w' hw'; go_simp) ?_; refine wpM_norm (fun K hK => ?_); go_simp; refine hK _ ?_; clear hK K)
  refine wpM_l _ rfl (fun w' hw' _ => ?_) (fun v60 => ?_)
  · unfold makes
    go_simp
    exact ⟨(Ext.refl _).alloc _, cls_two ⟨k, a, o, n⟩⟩
  refine wpM_norm (fun K hK => ?_); go_simp; refine hK _ ?_; clear hK K
  refine wpM_x _ rfl (fun w' hw' hk => ?_) ?_
  · have h60 : Cls w' v60 [⟨k, a, o, n⟩, ⟨k, a, o, n⟩] := hk 60 (by decide)
    have hg := gives_exts (cP w' v60 hw' h60)
    clear hk h60
    unfold makes
    go_simp
    exact ⟨Ext.refl _, hg⟩
  refine wpM_norm (fun K hK => ?_); go_simp; refine hK _ ?_; clear hK K
  iterate 2 (refine wpM_q (.agg #[I k, I a, I o, I n]) rfl (fun w' hw' => by obtain ⟨d0, d1, d2, d3⟩ := HC.out w' hw'; go_simp) ?_; refine wpM_norm (fun K hK => ?_); go_simp; refine hK _ ?_; clear hK K)
  refine wpM_l _ rfl (fun w' hw' _ => ?_) (fun v64 => ?_)
  · unfold makes
    go_simp
    exact ⟨(Ext.refl _).alloc _, cls_two ⟨k, a, o, n⟩⟩
  refine wpM_norm (fun K hK => ?_); go_simp; refine hK _ ?_; clear hK K
  refine wpM_x _ rfl (fun w' hw' hk => ?_) ?_
  · have h64 : Cls w' v64 [⟨k, a, o, n⟩, ⟨k, a, o, n⟩] := hk 64 (by decide)
    have hg := gives_exts (cQ w' v64 hw' h64)
    clear hk h64
    unfold makes
    go_simp
    exact ⟨Ext.refl _, hg⟩
  refine wpM_norm (fun K hK => ?_); go_simp; refine hK _ ?_; clear hK K
  iterate 4 (refine wpM_p (fun K hK => ?_); go_simp; refine hK _ ?_; clear hK K)
  refine wpM_nil ?_
  intro w6 he6 _
  go_wp2
  go_ret
  exact ⟨rfl, m5.trans he6⟩

end Go.Proofs.YtdmipnnfoolelabDoor

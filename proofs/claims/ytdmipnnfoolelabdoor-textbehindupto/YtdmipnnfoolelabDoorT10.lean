/- Walk: TextBehind. -/
import Derived.Test.YtdmipnnfoolelabDoorT9
namespace Go.Proofs.YtdmipnnfoolelabDoor
open Go.RowKit Go.Mk

/-- append, where a guard says yes. -/
theorem wpList_append_want {P : Program} (w : World) {ops : Array Oper} {rest : List Oper} {o : Oper} {a : Act} {Q : Exit → Act → World → Prop} (hgd : Region.wanted o (yielded ops a.tmps) = true) (s x : Operand) (t : TypeId)
    (ho : o.op = .call { callee := .builtin .append, args := #[s, x], argTypes := #[t, t] })
    (base : Nat) (e : TypeId) (i : TypeInfo) (z : Value) (size bytes : Nat) (ht : P.underlying t = some (.slice e)) (hi : P.info? e = some i) (hz : i.zero = some z)
    (hsize : i.size = size) (hby : i.bytes = bytes) (hzs : z.cells.size = size) (hsz : 0 < size)
    (v : Value) (n : Nat) (xs : List Value) (hs : a.eval s = v) (hown : w.ownsRow base e size v n xs) (u : Value) (hx : a.eval x = u) (m : Nat) (news : List Value) (hu : Row w size u m news) (h1 : ∀ u ∈ news, u.oneCell' = true)
    (hbytes : (n + m) * bytes ≤ 140737488355328) (hpos : 0 < bytes) (hbase : base ≤ w.heap.size)
    (h : ∀ v' w', w'.ownsRow base e size v' (n + m) (xs ++ news) → w.grownBy w' v.ownBlock → wpList P ops Q rest (a.put o.dst v') w') : wpList P ops Q (o :: rest) a w := by
  refine BigFrame.wpList_want hgd fun K hK => ?_
  obtain ⟨v', w', hrun, h2, h3⟩ := run_append_row (P := P) w base t o.type e i z size bytes ht hi hz hsize hby hzs hsz v n xs hown u m news hu h1 hbytes hpos hbase
  unfold Oper.wp
  simp [execOp, ho, resolve, invoke, builtin, hs, hx, hrun, Result.andThen]
  exact hK _ _ (h v' w' h2 h3)

theorem parse_at_call (s : Bs) (hs : s.length ≤ 100000000) (w : World) (hv : Vars w) : Calls Tryd.prog 8 #[S s] w fun e w' => ∃ ao cap, e = .returned (.tuple #[.slice ao (parseCl s).1.length cap, I (parseCl s).2]) ∧ Ext w w' ∧ Cls w' (.slice ao (parseCl s).1.length cap) (parseCl s).1 :=
  (parse_any s hs w hv).mono fun e w' ⟨v, he, hx, hc⟩ => by
    obtain ⟨ao, cap, rfl, -⟩ := hc.form
    exact ⟨ao, cap, he, hx, hc⟩

set_option maxHeartbeats 4000000 in
theorem TextBehind_any (a b : Bs) (ha : a.length ≤ 10000000) (hb : b.length ≤ 10000000) (w : World) (hv : Vars w) :
    Calls Tryd.prog 4 #[S a, S b] w fun e w' => e = .returned (.bool true) ∧ Ext w w' := by
  have p1 := fun wx hx => parse_at_call a (by omega) wx hx
  have p2 := fun wx hx => parse_at_call b (by omega) wx hx
  have p3 := fun wx hx => parse_at_call (a ++ b) (by simp; omega) wx hx
  have hpb := fun l m (h1 : parseCl a = (l, 0)) (h2 : parseCl b = (m, 0)) => And.intro (parse_behind h1 h2) (And.intro (print_parse h1).2.1 (print_parse h2).2.1)
  generalize parseCl (a ++ b) = r3 at p3 hpb
  generalize parseCl a = r1 at p1 hpb
  generalize parseCl b = r2 at p2 hpb
  obtain ⟨l, ea⟩ := r1
  obtain ⟨m, eb⟩ := r2
  simp only [] at p1 p2
  have hal := fun wx hx => alive_any wx hx
  by_cases h1 : ea = 0
  case neg =>
    have hb1 : (ea == 0) = false := by simpa using h1
    clear hpb p3 h1
    go_enter Tryd.func4, Tryd.ntmps4
    go_wp2_with (first
      | (go_at_call 16; refine Calls.exts (hal _ hv) ?_; intro w1 e1)
      | (go_at_call 8; first
          | (refine (p2 _ (hv.ext m2)).mono ?_; rintro e w3 ⟨ao2, cap2, rfl, e3, hc2⟩; have m3 := m2.trans e3)
          | (refine (p1 _ (hv.ext e1)).mono ?_; rintro e w2 ⟨ao1, cap1, rfl, e2, hc1⟩; have m2 := e1.trans e2)))
    go_ret
    exact ⟨rfl, m3⟩
  subst h1
  by_cases h2 : eb = 0
  case neg =>
    have hb2 : (eb == 0) = false := by simpa using h2
    clear hpb p3 h2
    go_enter Tryd.func4, Tryd.ntmps4
    go_wp2_with (first
      | (go_at_call 16; refine Calls.exts (hal _ hv) ?_; intro w1 e1)
      | (go_at_call 8; first
          | (refine (p2 _ (hv.ext m2)).mono ?_; rintro e w3 ⟨ao2, cap2, rfl, e3, hc2⟩; have m3 := m2.trans e3)
          | (refine (p1 _ (hv.ext e1)).mono ?_; rintro e w2 ⟨ao1, cap1, rfl, e2, hc1⟩; have m2 := e1.trans e2)))
    go_ret
    exact ⟨rfl, m3⟩
  subst h2
  obtain ⟨hp3, hl8, hm8⟩ := hpb l m rfl rfl
  clear hpb
  subst hp3
  by_cases h8 : 8 < l.length + m.length
  case pos =>
    rw [if_pos h8] at p3
    simp only [] at p3
    have hz : (8 : Int) < (l.length : Int) + (m.length : Int) := by omega
    go_enter Tryd.func4, Tryd.ntmps4
    go_wp2_with (first
      | (go_at_call 16; refine Calls.exts (hal _ hv) ?_; intro w1 e1)
      | (go_at_call 8; first
          | (refine (p3 _ (hv.ext m3)).mono ?_; rintro e w4 ⟨ao3, cap3, rfl, e4, hc3⟩; have m4 := m3.trans e4)
          | (refine (p2 _ (hv.ext m2)).mono ?_; rintro e w3 ⟨ao2, cap2, rfl, e3, hc2⟩; have m3 := m2.trans e3)
          | (refine (p1 _ (hv.ext e1)).mono ?_; rintro e w2 ⟨ao1, cap1, rfl, e2, hc1⟩; have m2 := e1.trans e2)))
    go_ret
    exact ⟨rfl, m4⟩
  rw [if_neg h8] at p3
  simp only [] at p3
  have hz : ¬ (8 : Int) < (l.length : Int) + (m.length : Int) := by omega
  go_enter Tryd.func4, Tryd.ntmps4
  go_wp2_with (first
    | (go_at_call 16; refine Calls.exts (hal _ hv) ?_; intro w1 e1)
    | (go_at_call 8; first
        | (refine (p3 _ (hv.ext m3)).mono ?_; rintro e w4 ⟨ao3, cap3, rfl, e4, hc3⟩; have m4 := m3.trans e4)
        | (refine (p2 _ (hv.ext m2)).mono ?_; rintro e w3 ⟨ao2, cap2, rfl, e3, hc2⟩; have m3 := m2.trans e3)
        | (refine (p1 _ (hv.ext e1)).mono ?_; rintro e w2 ⟨ao1, cap1, rfl, e2, hc1⟩; have m2 := e1.trans e2))
    | (at_builtin; refine stop_at ?_))
  unfold Hid
  obtain ⟨i0, hi, hz0, hz1, hz2⟩ := info_parts Tryd.infoCall
  have h40 : (w4.alloc (.cells #[] 23)).ownsRow w4.heap.size 23 4 (.slice (some ⟨w4.heap.size, 0, none⟩) 0 0) 0 (cells4 []) := World.ownsRow_lit w4 #[] 0 (Nat.le_refl _) (by decide) rfl
  have x1 := (Ext.refl w4).alloc (.cells #[] 23)
  refine wpList_append_want _ rfl (.tmp 53) (.tmp 54) 27 rfl w4.heap.size 23 i0 (.agg #[.int .i64 0, .int .i64 0, .int .i64 0, .int .i64 0]) 4 32 Tryd.underlying27 hi hz0 hz1 hz2 rfl (by decide) (.slice (some ⟨w4.heap.size, 0, none⟩) 0 0) 0 (cells4 []) rfl h40 (.slice ao1 l.length cap1) rfl l.length (cells4 l) (((hc1.ext e3).ext e4).ext x1) (cells4_one l) (by omega) (by decide) (by simp) ?_
  intro v5 w5 ho5 hg5
  have x5 : Ext w4 w5 := x1.grown hg5 (fun j hj => (h40.lt j hj).1)
  clear hi hz0 hz1 hz2 h40 x1 hg5
  go_wp2_with (at_builtin; refine stop_at ?_)
  unfold Hid
  obtain ⟨i0, hi, hz0, hz1, hz2⟩ := info_parts Tryd.infoCall
  refine wpList_append_want _ rfl (.tmp 55) (.tmp 56) 27 rfl w4.heap.size 23 i0 (.agg #[.int .i64 0, .int .i64 0, .int .i64 0, .int .i64 0]) 4 32 Tryd.underlying27 hi hz0 hz1 hz2 rfl (by decide) v5 (0 + l.length) (cells4 [] ++ cells4 l) rfl ho5 (.slice ao2 m.length cap2) rfl m.length (cells4 m) ((hc2.ext e4).ext x5) (cells4_one m) (by omega) (by decide) x5.size ?_
  intro v6 w6 ho6 hg6
  have x6 : Ext w4 w6 := x5.grown hg6 (fun j hj => (ho5.lt j hj).1)
  have hc6 : Cls w6 v6 (l ++ m) := by
    refine cls_of_owns (base := w4.heap.size) (e := 23) (n := 0 + l.length + m.length) ?_
    rw [cells4_append]
    exact ho6
  have hsame := sameCalls_any (.slice ao3 (l.length + m.length) cap3) v6 (l ++ m) w6 (by have := hc3.ext x6; simpa using this) hc6
  clear hi hz0 hz1 hz2 hg6 ho6 ho5
  go_wp2_with (go_at_call 10; refine Calls.exts hsame ?_; intro w7 e7)
  go_ret
  exact ⟨rfl, (m4.trans x6).trans e7⟩

end Go.Proofs.YtdmipnnfoolelabDoor

/- Walks: a call is written. -/
import Derived.Test.YtdmipnnfoolelabDoorT4
import Derived.Lib.ItoaLen
namespace Go.Proofs.YtdmipnnfoolelabDoor
open Go.RowKit Go.Mk

theorem join_any (v : Value) (ws : List Bs) (w : World) (hs : Strs w v ws) (hne : ws ≠ []) (hl : (joinB 32 ws).length ≤ 140737488355328) (hn : ws.length ≤ 140737488355328) :
    Calls Tryd.prog 27 #[v, S [32]] w fun e w' => e = .returned (S (joinB 32 ws)) ∧ Ext w w' := by
  obtain ⟨ao, cap, rfl, h1, h2, h3⟩ := hs.form
  have h0 : 0 < ws.length := by cases ws with | nil => exact absurd rfl hne | cons _ _ => simp
  obtain ⟨b, off, rfl, hc⟩ := h3 0 h0
  have hm : (ws.map fun l => (⟨l.toArray⟩ : ByteArray)).map (·.data.toList) = ws := by
    rw [List.map_map]
    exact List.map_id'' (fun _ => by simp) ws
  have hlen : (ws.map fun l => (⟨l.toArray⟩ : ByteArray)).length = ws.length := by simp
  have e : Lib.join ((ws.map fun l => (⟨l.toArray⟩ : ByteArray)).map (·.data.toList)) ([32] : List UInt8) = joinB 32 ws := by rw [hm, join_lib]
  have := Any.strings_Join (P := Tryd.prog) (ρ := Tryd.lays156_ren) Tryd.lays156 Tryd.Builder_Extra_156 b off cap (ws.map fun l => (⟨l.toArray⟩ : ByteArray)) ⟨#[32]⟩ w
    (fun j x hj => by
      have hj' : j < ws.length := by rw [← hlen]; exact (List.getElem?_eq_some_iff.1 hj).1
      obtain ⟨b', off', e', hc'⟩ := h3 j hj'
      simp only [Option.some.injEq, Addr.mk.injEq, and_true] at e'
      obtain ⟨rfl, rfl⟩ := e'
      rw [hc']
      simp [hj'] at hj
      simp [S, hj', ← hj])
    (cell_lt hc) (by rw [hlen]; exact hn) (by rw [hlen]; exact h1) (by rw [show ((⟨#[32]⟩ : ByteArray).data.toList) = [32] from rfl, e]; exact hl)
  rw [show ((⟨#[32]⟩ : ByteArray).data.toList) = [32] from rfl, e, hlen] at this
  exact this

theorem itoa_len {n : Int} (h0 : -9223372036854775808 ≤ n) (h1 : n ≤ 9223372036854775807) : (Lib.itoa n).length ≤ 21 := Lib.itoa_length_le n h0 h1

theorem callText_len {c : Cl} (h : wrongCl c = 0) : (callText c).length ≤ 60 := by
  have hw : (wordOf c.kind).length ≤ 5 := by
    unfold wordOf
    repeat' split
    all_goals decide
  have ha := args_fit h
  have hl := length_args c
  have hc := argc_le c.kind
  unfold callText callWs
  rcases hx : argsOf c with _ | ⟨a, _ | ⟨b, _ | ⟨d, r⟩⟩⟩
  · simp [joinB]; omega
  · rw [hx] at ha
    have := itoa_len (ha a (by simp)).1 (ha a (by simp)).2
    simp [joinB]; omega
  · rw [hx] at ha
    have := itoa_len (ha a (by simp)).1 (ha a (by simp)).2
    have := itoa_len (ha b (by simp)).1 (ha b (by simp)).2
    simp [joinB]; omega
  · rw [hx] at hl; simp at hl; omega

theorem fields_args (c : Cl) : ∀ k, k < (fieldsOf c.kind).length → (#[I c.kind, I c.name, I c.other, I c.n] : Array Value)[(fieldsOf c.kind).getD k 0]? = some (I ((argsOf c).getD k 0)) := by
  intro k hk
  obtain ⟨q, a, o, n⟩ := c
  simp only at *
  by_cases h1 : q = 1 ∨ q = 4
  · have e1 : fieldsOf q = [1, 3] := if_pos h1
    have e2 : argsOf ⟨q, a, o, n⟩ = [a, n] := by rcases h1 with rfl | rfl <;> rfl
    rw [e1] at hk ⊢
    rw [e2]
    match k, hk with
    | 0, _ => rfl
    | 1, _ => rfl
  by_cases h2 : q = 2 ∨ q = 3
  · have e1 : fieldsOf q = [1] := by unfold fieldsOf; rw [if_neg h1, if_pos h2]
    have e2 : argsOf ⟨q, a, o, n⟩ = [a] := by rcases h2 with rfl | rfl <;> rfl
    rw [e1] at hk ⊢
    rw [e2]
    match k, hk with
    | 0, _ => rfl
  by_cases h3 : q = 6
  · subst h3
    match k, hk with
    | 0, _ => rfl
    | 1, _ => rfl
  · have e1 : fieldsOf q = [] := by unfold fieldsOf; rw [if_neg h1, if_neg h2, if_neg h3]
    rw [e1] at hk
    simp at hk

theorem Tryd.infoStr : (Tryd.prog.info? 9).map (fun i => (i.zero, i.size, i.bytes)) = some (some (.string ByteArray.empty), 1, 16) := by kernel_rfl

set_option maxHeartbeats 4000000 in
theorem call_any (c : Cl) (hc : wrongCl c = 0) (w : World) (hv : Vars w) : Calls Tryd.prog 12 #[A c] w fun e w' => e = .returned (S (callText c)) ∧ Ext w w' := by
  obtain ⟨i0, hi, hz0, hz1, hz2⟩ := info_parts Tryd.infoStr
  have hfa := fields_args c
  have hfit := args_fit hc
  have hlen := callText_len hc
  have hle : (fieldsOf c.kind).length ≤ 2 := by rw [length_fields]; exact argc_le _
  have hla : (argsOf c).length = (fieldsOf c.kind).length := by rw [length_args, length_fields]
  have HT : Hid (callText c = joinB 32 (wordOf c.kind :: (argsOf c).map Lib.itoa)) := rfl
  generalize callText c = T at *
  generalize argsOf c = gs at *
  generalize hfs : fieldsOf c.kind = fs at *
  have HFS : Hid (fieldsOf c.kind = fs) := hfs
  generalize hwd : wordOf c.kind = wd at *
  have hword : ∀ wx, Calls Tryd.prog 26 #[I c.kind] wx fun e w' => e = .returned (S wd) ∧ w' = wx := fun wx => by rw [← hwd]; exact wordOf_any _ _
  have hplaces : ∀ (b : Nat) (wx : World), wx.cell? ⟨b, 0, none⟩ = some (I c.kind) → Calls Tryd.prog 20 #[.pointer (some ⟨b, 0, none⟩)] wx fun e w' => ∃ r, e = .returned r ∧ Ext wx w' ∧ PtrsO wx.heap.size w' r b fs := fun b wx h => by rw [← hfs]; exact places_any b _ wx h
  clear hwd hfs hc
  obtain ⟨ck, ca, co, cn⟩ := c
  simp only [] at hword hplaces hfa
  go_enter Tryd.func12, Tryd.ntmps12
  go_wp2_with (first
    | (go_at_call 26; refine Calls.same (hword _) ?_)
    | (go_at_call 20; refine (hplaces _ _ (by go_simp)).mono ?_; rintro e w1 ⟨vp, rfl, e1, hpo⟩; obtain ⟨ao, cap, rfl, h1, h2, -⟩ := hpo.ptrs.form; unfold maxLen at h2))
  have b0 : w1.heap[w.heap.size]? = some (.cells #[I ck, I ca, I co, I cn] 23 (0, 0)) := first_block e1
  have m1 : Ext w w1 := (((Ext.refl w).alloc _).alloc _).trans e1
  have ho1 : w1.ownsRow w.heap.size 9 1 (.slice (some ⟨w.heap.size + 1, 0, none⟩) 1 1) 1 ([wd].map S) := by
    have := World.ownsRow_lit (base := w.heap.size) (e := 9) (size := 1) (w.alloc (.cells #[I ck, I ca, I co, I cn] 23)) #[S wd] 1 (by simp) (by decide) rfl
    exact owns_ext (by simpa using this) e1
  have hp1 : PtrsO w.heap.size w1 (.slice ao fs.length cap) w.heap.size fs := owns_base hpo (by simp; omega)
  clear hpo e1 hword hplaces
  go_loopw [3, 12] (fun v i wr => ∃ k : Nat, k ≤ fs.length ∧ i = I k ∧ wr.ownsRow w.heap.size 9 1 v (k + 1) ((wd :: (gs.take k).map Lib.itoa).map S) ∧ PtrsO w.heap.size wr (.slice ao fs.length cap) w.heap.size fs ∧
    wr.heap[w.heap.size]? = some (.cells #[I ck, I ca, I co, I cn] 23 (0, 0)) ∧ Ext w wr) (fun _ i _ => fs.length - (intOf i).toNat)
  case atStart => exact ⟨0, by omega, rfl, by simpa using ho1, hp1, b0, m1⟩
  case round =>
    obtain ⟨k, hk, rfl, ho, hpo, hb, he⟩ := hrel
    clear ho1 hp1 b0 m1
    by_cases hlt : k < fs.length
    · obtain ⟨ao1, cap1, ea, -, -, c1⟩ := hpo.ptrs.form
      simp only [Value.slice.injEq, true_and] at ea
      obtain ⟨rfl, rfl⟩ := ea
      obtain ⟨b1, o1, rfl, d1⟩ := c1 k hlt
      have d2 : wr.cell? ⟨w.heap.size, fs.getD k 0, none⟩ = some (I (gs.getD k 0)) := cell_block hb (hfa k hlt)
      have hmem : gs.getD k 0 ∈ gs := by
        have hw : k < gs.length := by omega
        simp [hw]
      obtain ⟨f1, f2⟩ := hfit _ hmem
      have ex1 : gs.take (k + 1) = gs.take k ++ [gs.getD k 0] := take_next' gs k (by omega) 0
      have HP : Hid (PtrsO w.heap.size wr (.slice (some ⟨b1, o1, none⟩) fs.length cap) w.heap.size fs) := hpo
      have HB : Hid (wr.heap[w.heap.size]? = some (.cells #[I ck, I ca, I co, I cn] 23 (0, 0))) := hb
      have hvr := hv.ext he
      clear c1 hpo hfa hb hmem hfit hla
      generalize gs.getD k 0 = x at d2 f1 f2 ex1
      generalize fs.getD k 0 = j at d1 d2
      have E1 : Hid (gs.take (k + 1) = gs.take k ++ [x]) := ex1
      clear ex1
      go_wp2_with (first
        | (go_at_call 24; refine Calls.exts (itoa_any x f1 f2 _ hvr) ?_; intro w2 e2)
        | (at_builtin; refine stop_at ?_))
      unfold Hid
      have hlit : Row (w2.alloc (.cells #[S (Lib.itoa x)] 9)) 1 (.slice (some ⟨w2.heap.size, 0, none⟩) 1 1) 1 [S (Lib.itoa x)] := by
        have := World.ownsRow_lit (base := 0) (e := 9) (size := 1) w2 #[S (Lib.itoa x)] 1 (Nat.zero_le _) (by decide) rfl
        exact Row.of_owns this
      refine wpList_append_row _ rfl (.tmp 16) (.tmp 21) 38 rfl w.heap.size 9 i0 (.string ByteArray.empty) 1 16 Tryd.underlying38 hi hz0 hz1 hz2 rfl (by decide) u3 (k + 1) ((wd :: (gs.take k).map Lib.itoa).map S) rfl ((owns_ext ho e2).alloc _) _ rfl 1 [S (Lib.itoa x)] hlit (mapS_one [Lib.itoa x]) (by omega) (by decide) (by have := he.size; have := e2.size; simp; omega) ?_
      intro o' w3 ho3 hg3
      have he2 := (he.trans e2).alloc (.cells #[S (Lib.itoa x)] 9)
      have he3 : Ext w w3 := he2.grown hg3 (fun j hj => (ho.lt j hj).1)
      have hb2 := block_of HB.out (e2.alloc (.cells #[S (Lib.itoa x)] 9))
      have hb3 : w3.heap[w.heap.size]? = some (.cells #[I ck, I ca, I co, I cn] 23 (0, 0)) := by
        rw [hg3.block _ (Array.getElem?_eq_some_iff.1 hb2).1 (fun e => own_ne ((owns_ext ho e2).alloc _) hb2 (by decide) e.symm)]
        exact hb2
      have hp2 : PtrsO w.heap.size _ _ w.heap.size fs := (PtrsO.ext HP.out e2).ext ((Ext.refl _).alloc (.cells #[S (Lib.itoa x)] 9))
      have hp3 : PtrsO w.heap.size w3 (.slice (some ⟨b1, o1, none⟩) fs.length cap) w.heap.size fs := World.ownsRow.kept hp2 hg3 (own_types hp2 ((owns_ext ho e2).alloc _) (by decide))
      have HB3 := Lib.hid hb3
      clear hg3 hb3 hb2 hp2 he2
      go_wp2
      go_roundw
      case rel =>
        refine ⟨k + 1, by omega, by go_num, ?_, hp3, HB3.out, he3⟩
        rw [E1.out]
        simpa using ho3
      case measure => simp [intOf]; omega
    · have hkl : k = fs.length := by omega
      have hs : Strs wr u3 (wd :: gs.map Lib.itoa) := by
        rw [hkl, ← hla, List.take_of_length_le (Nat.le_refl _)] at ho
        exact strs_of_owns ho
      have HE : Hid (T = joinB 32 (wd :: gs.map Lib.itoa)) := HT
      have hjoin := join_any u3 _ wr hs (by simp) (by rw [← HE.out]; omega) (by simp; omega)
      rw [← HE.out] at hjoin
      clear hkl hs hpo hfa hfit hla hb ho
      go_wp2_with (go_at_call 27; refine Calls.exts hjoin ?_; intro w2 e2)
      go_ret
      exact ⟨rfl, he.trans e2⟩

end Go.Proofs.YtdmipnnfoolelabDoor

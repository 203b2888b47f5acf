/- Walks: deeds, and doing a call. -/
import Derived.Test.YtdmipnnfoolelaaM5
namespace Go.Proofs.Ytdmipnnfoolelaa
open Go.RowKit Go.Mk

/-- A function with a body is entered. -/
def Enters (F : FuncId) : Prop := ∀ (args : Array Value) (w : World), (callFunc F args).run Try.prog w = .ok (.enter F args) w
theorem enters_get : Enters 51 := fun _ _ => by kernel_rfl
theorem enters_drop : Enters 52 := fun _ _ => by kernel_rfl
theorem enters_add : Enters 61 := fun _ _ => by kernel_rfl
theorem enters_swap : Enters 62 := fun _ _ => by kernel_rfl
theorem enters_there : Enters 60 := fun _ _ => by kernel_rfl
theorem enters_put : Enters 58 := fun _ _ => by kernel_rfl
theorem enters_count : Enters 48 := fun _ _ => by kernel_rfl
theorem enters_nokind : Enters 55 := fun _ _ => by kernel_rfl

set_option maxHeartbeats 400000 in
/-- there: a name that is not there is told; else it goes on with the place. -/
theorem there_any (F : FuncId) (caps : Array Value) (l : List (Int × Int)) (g b1 b2 : Nat) (name : Int) (w : World) (l' : List (Int × Int)) (r : Rp) (ho : Owned w g l) (h1 : w.cell? ⟨b1, 0, none⟩ = some (I name)) (hb1 : b1 < w.heap.size)
    (h2 : w.cell? ⟨b2, 0, none⟩ = some (.func (.func F) #[] caps))
    (hE : Enters F) (hF : at1 l name < l.length → ∀ wa, Ext w wa → Calls Try.prog F (#[.slice (some ⟨g, 0, none⟩) l.length l.length, I (at1 l name)] ++ caps) wa fun e w' => Told wa g l' r e w') :
    Calls Try.prog 60 #[.slice (some ⟨g, 0, none⟩) l.length l.length, .pointer (some ⟨b1, 0, none⟩), .pointer (some ⟨b2, 0, none⟩)] w fun e w' =>
      if at1 l name < l.length then Told w g l' r e w' else Told w g l ⟨6, 0⟩ e w' := by
  have hg : g < w.heap.size := (ho.lt g rfl).2
  by_cases ha : at1 l name < l.length
  case neg =>
    simp only [ha, if_false]
    have hf : find1 l name = -1 := by unfold find1; rw [if_neg ha]
    clear hF
    go_enter Try.func60, Try.ntmps60
    go_wp2_with fail
    refine Calls.exts (find_any _ l name _ (writes_of_owns (ho.alloc _))) (fun wa ea => ?_)
    rw [hf]
    go_wp2_with fail
    refine Calls.exts (refuse_any _ _ _) (fun w1 e1 => ?_)
    obtain ⟨c0, c1, f0, f1⟩ := box_of (heap_alloc_new w _) (ea.trans e1)
    have he : Ext w w1 := (((Ext.refl w).alloc _).trans ea).trans e1
    go_wp2
    try simp only [Exit.inBlock, Exit.then]
    refine bodyPost_ret (by simp [results, Try.results60, go_sem, c0, c1]; rfl) rfl ?_
    exact told_box (Nat.le_refl _) (owns_ext ho he) (ne_new' ho) (he.grownBy _) (fun w2 h2 => writes_of_owns h2)
  simp only [ha, if_true]
  have hf : find1 l name = (at1 l name : Int) := by unfold find1; rw [if_pos ha]
  have HF : Hid (∀ wa, Ext w wa → Calls Try.prog F (#[.slice (some ⟨g, 0, none⟩) l.length l.length, I (at1 l name)] ++ caps) wa fun e w' => Told wa g l' r e w') := hF ha
  clear hF
  generalize hA : at1 l name = A at *
  go_enter Try.func60, Try.ntmps60
  go_wp2_with fail
  refine Calls.exts (find_any _ l name _ (writes_of_owns (ho.alloc _))) (fun wa ea => ?_)
  rw [hf]
  have hea : Ext w wa := ((Ext.refl w).alloc _).trans ea
  have g2 := hea.cell h2
  have hE2 := hE
  unfold Enters at hE2
  go_wp2_with fail
  refine (HF.out wa hea).mono ?_
  rintro e w1 ⟨u, v, n, lo, rfl, hov, hu, hgr⟩
  have hb1 : w1.heap[w.heap.size]? = some (.cells #[I 0, I 0] 43) := by
    rw [hgr.block w.heap.size (Array.getElem?_eq_some_iff.1 (block_ext ea)).1 (fun e => by have e2 : w.heap.size = g := Option.some.inj e; omega)]
    exact block_ext ea
  obtain ⟨c0, c1, f0, f1⟩ := box_of hb1 (Ext.refl w1)
  clear hE2
  go_wp2
  try simp only [Exit.inBlock, Exit.then]
  refine bodyPost_ret (by simp [results, Try.results60, go_sem, c0, c1]; rfl) rfl ?_
  exact told_box (Nat.le_refl _) hov (own_ne hov hb1 (by decide)) (grown_trans (hea.grownBy _) hgr) hu

end Go.Proofs.Ytdmipnnfoolelaa

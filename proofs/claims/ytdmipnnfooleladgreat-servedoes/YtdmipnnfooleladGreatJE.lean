/- Texts of the proof, merged: HeldP. -/
import Derived.Test.YtdmipnnfooleladGreatJC

namespace Go.Mk
open Go Go.RowKit

section
variable {P : Program} {md : Region.Mode} {ops : Array Oper} {Q : Exit → Act → World → Prop} {S : World → Prop} {pre : Nat → Bool} {fuel : Nat} {listed : Array Bool} {a : Act} {w : World} {o : Oper}

def wpAnyP (P : Program) (md : Region.Mode) (ops : Array Oper) (Q : Exit → Act → World → Prop) (S : World → Prop) (pre : Nat → Bool) : Nat → Array Bool → Act → World → Prop
 | 0,listed,a,w=>Region.ready md ops listed = [] ∧ Q .normal a w
 | fuel + 1,listed,a,w =>
  (Region.ready md ops listed = [] → Q .normal a w) ∧
  ∀ i ∈ Region.ready md ops listed,wpOp P ops Q i (fun a' w'=>(pre i = true → S w → S w') ∧ wpAnyP P md ops Q S pre fuel (listed.setIfInBounds i true) a' w') a w

theorem wpAny_of_P : ∀ (fuel : Nat) (listed : Array Bool) (a : Act) (w : World),wpAnyP P md ops Q S pre fuel listed a w → wpAny P md ops Q fuel listed a w
 | 0,_,_,_,h=>h
 | fuel + 1,_,_,_,h=>⟨h.1,fun i hi=>wpOp_mono (fun a' w' h'=>wpAny_of_P fuel _ a' w' h'.2) (h.2 i hi)⟩

theorem wpAnyP_first {S2 : World → Prop} {i : Nat} {oi : Oper} {v : Value} (hi : ops[i]? = some oi) (hsel : ∀ (j : Nat) (o : Oper) cs b,ops[j]? = some o → o.op ≠ .select cs b)
  (hQ : ∀ c a w,Q (.panic c) (a.put oi.dst v) w → Q (.panic c) a w)
  (hkeep : ∀ j oj w w',ops[j]? = some oj → j ≠ i → (∀ e ∈ oj.after,Region.binds md e = true → e.on ≠ i) → (pre j = true → S w → S w') → S2 w → S2 w') :
  ∀ (fuel : Nat) (listed : Array Bool) (a : Act) (w : World),
   (∀ j oj,ops[j]? = some oj → j ≠ i → listed.getD j true = false → (∀ e ∈ oj.after,Region.binds md e = true → e.on ≠ i) → oi.apart ops oj = true) →
   i ∈ Region.ready md ops listed → YieldsIf P ops S2 oi v a → S2 w →
   wpAnyP P md ops Q S pre fuel (listed.setIfInBounds i true) (a.put oi.dst v) w → wpAnyP P md ops Q S pre (fuel + 1) listed a w:=by
 intro fuel
 induction fuel with
 | zero =>
  intro listed a w _ hr hy hS H
  refine ⟨fun h=>(by rw [h] at hr; cases hr),fun j hj=>?_⟩
  by_cases hji : j = i
  ·subst hji; exact hy.wpOp hi hS ⟨fun _ h=>h,H⟩
  ·have:=ready_mono hj hji
   rw [H.1] at this
   cases this
 | succ fuel ih =>
  intro listed a w hfree hr hy hS H
  refine ⟨fun h=>(by rw [h] at hr; cases hr),fun j hj=>?_⟩
  by_cases hji : j = i
  ·subst hji; exact hy.wpOp hi hS ⟨fun _ h=>h,H⟩
  ·have h1:=H.2 j (ready_mono hj hji)
   obtain ⟨hjun,oj,hoj,hall⟩:=mem_ready.1 hj
   have hnot : ∀ e ∈ oj.after,Region.binds md e = true → e.on ≠ i:=fun e he hb heq=>by
    have h1:=hall e he hb
    have h0:=(mem_ready.1 hr).1
    rw [heq] at h1
    rcases Nat.lt_or_ge i listed.size with h' | h'
    ·simp [h'] at h0 h1; rw [h0] at h1; cases h1
    ·simp [Array.getElem?_eq_none h'] at h1
   have h2:=wpOp_putIf hoj (hfree j oj hoj hji hjun hnot) (fun cs b=>hsel i oi cs b hi) (fun cs b=>hsel j oj cs b hoj) hQ hy h1
   have hfree' : ∀ k ok,ops[k]? = some ok → k ≠ i → (listed.setIfInBounds j true).getD k true = false →
     (∀ e ∈ ok.after,Region.binds md e = true → e.on ≠ i) → oi.apart ops ok = true:=fun k ok hk hki hun hno=>by
    refine hfree k ok hk hki ?_ hno
    by_cases hjk : j = k
    ·subst hjk; exact hjun
    ·rw [getD_set_ne true hjk] at hun; exact hun
   refine wpOp_mono (fun a' w' h3=>⟨h3.2.1,ih (listed.setIfInBounds j true) a' w' hfree' (ready_mono hr (Ne.symm hji)) h3.1 (hkeep j oj w w' hoj hji hnot h3.2.1 hS) ?_⟩) h2
   rw [Array.setIfInBounds_comm _ _ hji]
   exact h3.2.2

/-- Who can come before number i must leave S as it is. -/
def preB (md : Region.Mode) (ops : Array Oper) (pre : Nat → Bool) (i : Nat) : Bool :=
 (List.range ops.size).all fun j=>pre j || j == i || (match ops[j]? with | some o=>o.after.any (fun e=>Region.binds md e && e.on == i) | none=>true)
theorem preB_spec {i : Nat} (h : preB md ops pre i = true) : ∀ j oj,ops[j]? = some oj → j ≠ i → (∀ e ∈ oj.after,Region.binds md e = true → e.on ≠ i) → pre j = true:=fun j oj hj hji hno=>by
 have h1:=List.all_eq_true.1 h j (List.mem_range.2 (Array.getElem?_eq_some_iff.1 hj).1)
 simp only [hj,Bool.or_eq_true,beq_iff_eq] at h1
 rcases h1 with (h1 | h1) | h1
 ·exact h1
 ·exact absurd h1 hji
 ·rw [Array.any_eq_true'] at h1
  obtain ⟨e,he,h2⟩:=h1
  simp only [Bool.and_eq_true,beq_iff_eq] at h2
  exact absurd h2.2 (hno e he h2.1)

theorem heldP_norm (h : ∀ K : Act → Prop,(∀ a',wpAnyP P md ops Q S pre fuel listed a' w → K a') → K a) : wpAnyP P md ops Q S pre fuel listed a w:=h _ (fun _ h=>h)
theorem heldP_take (i : Nat) (hi : ops[i]? = some o) (hs : Region.noSelect ops = true) (hf : Region.free md ops listed i = true) (hr : (Region.ready md ops listed).contains i = true) (hp : preB md ops pre i = true)
  (hQ : ∀ v c a w,Q (.panic c) (a.put o.dst v) w → Q (.panic c) a w) (v : Value) (hw : Region.wanted o (yielded ops a.tmps) = true) (hv : ∀ w,S w → (execOp a.eval o).run P w = .ok (.value v) w) (hS : S w)
  (h : wpAnyP P md ops Q S pre fuel (listed.setIfInBounds i true) (a.put o.dst v) w) : wpAnyP P md ops Q S pre (fuel + 1) listed a w :=
 wpAnyP_first hi (Region.noSelect_spec hs) (hQ v) (fun j oj w w' hj hji hno h hs=>h (preB_spec hp j oj hj hji hno) hs) fuel listed a w (Region.free_spec hi hf) (by simpa using hr) (.inl ⟨hw,hv⟩) hS h
theorem heldP_pure (i : Nat) (hi : ops[i]? = some o) (hs : Region.noSelect ops = true) (hf : Region.free md ops listed i = true) (hr : (Region.ready md ops listed).contains i = true)
  (hQ : ∀ v c a w,Q (.panic c) (a.put o.dst v) w → Q (.panic c) a w) (hw : Region.wanted o (yielded ops a.tmps) = true)
  (h : ∀ K : Act → Prop,(∀ a',wpAnyP P md ops Q S pre fuel (listed.setIfInBounds i true) a' w → K a') → ∃ c,(∀ w,(execOp a.eval o).run P w = .ok (.value c) w) ∧ K (a.put o.dst c)) : wpAnyP P md ops Q S pre (fuel + 1) listed a w:=by
 obtain ⟨c,hc,hk⟩:=h _ (fun _ h=>h)
 exact wpAnyP_first (S2:=fun _=>True) hi (Region.noSelect_spec hs) (hQ c) (fun _ _ _ _ _ _ _ _ _=>trivial) fuel listed a w (Region.free_spec hi hf) (by simpa using hr) (.inl ⟨hw,fun w _=>hc w⟩) trivial hk
theorem heldP_all (i : Nat) (hr : Region.ready md ops listed = [i]) (h : wpOp P ops Q i (fun a' w'=>(pre i = true → S w → S w') ∧ wpAnyP P md ops Q S pre fuel (listed.setIfInBounds i true) a' w') a w) : wpAnyP P md ops Q S pre (fuel + 1) listed a w :=
 ⟨fun h0=>absurd (hr ▸ h0) (by simp),fun j hj=>by
  rw [hr,List.mem_singleton] at hj
  subst hj
  exact h⟩
theorem heldP_two (i j : Nat) (hr : Region.ready md ops listed = [i,j]) (h1 : wpOp P ops Q i (fun a' w'=>(pre i = true → S w → S w') ∧ wpAnyP P md ops Q S pre fuel (listed.setIfInBounds i true) a' w') a w)
  (h2 : wpOp P ops Q j (fun a' w'=>(pre j = true → S w → S w') ∧ wpAnyP P md ops Q S pre fuel (listed.setIfInBounds j true) a' w') a w) : wpAnyP P md ops Q S pre (fuel + 1) listed a w :=
 ⟨fun h0=>absurd (hr ▸ h0) (by simp),fun k hk=>by
  rw [hr] at hk
  simp only [List.mem_cons,List.not_mem_nil,or_false] at hk
  rcases hk with rfl | rfl
  ·exact h1
  ·exact h2⟩
theorem heldP_done (hr : Region.ready md ops listed = []) (h : Q .normal a w) : ∀ fuel,wpAnyP P md ops Q S pre fuel listed a w
 | 0=>⟨hr,h⟩
 | _ + 1=>⟨fun _=>h,by rw [hr]; simp⟩
theorem heldP_drew {id : Nat} (hm : P.follows .mixedOrders = true) (h : ∀ w',Ext w w' → w'.heap = w.heap → wpAnyP P .any ops Q S pre ops.size (Array.replicate ops.size false) a w') : (Code.region id ops true).wp P Q a w :=
 wp_region_any hm (wpAny_of_P _ _ _ _ (h w.drew ((Ext.refl w).drew) rfl))
/-- Operations, one by one. -/
theorem wpOp_value {K : Act → World → Prop} {i : Nat} (hi : ops[i]? = some o) (hw : Region.wanted o (yielded ops a.tmps) = true) (v : Value) (w' : World) (hv : (execOp a.eval o).run P w = .ok (.value v) w') (h : K (a.put o.dst v) w') : wpOp P ops Q i K a w:=by
 refine held_one hi hw ?_
 unfold Oper.wp
 rw [hv]
 exact h
theorem wpOp_storeW {K : Act → World → Prop} {i : Nat} (hi : ops[i]? = some o) (hw : Region.wanted o (yielded ops a.tmps) = true)
  (ty : TypeId) (x y : Operand) (ho : o.op = .store ty x y) (b : Nat) (hx : a.eval x = .pointer (some ⟨b,0,none⟩)) (vs : List Value) (hv : (a.eval y).cells = vs.toArray)
  {cs : Array Value} {t : TypeId} (hg : Hid (w.heap[b]? = some (.cells cs t (0,0)))) (hfit : vs.length = cs.size) (hsz : (P.info? ty).map (·.size) = some vs.length) (h1 : vs.all (fun u=>u.oneCell') = true)
  (h : ∀ w',Hid (Wrote w w' b vs.toArray t) → K (a.put o.dst undef) w') : wpOp P ops Q i K a w:=by
 refine held_one hi hw ?_
 unfold Oper.wp execOp
 simp only [ho,hx,Sem.run_bind,Sem.run_pure,Result.andThen_ok,run_storeM ty b 0 (a.eval y) vs hv hg.out (by omega) hsz (ones_of h1)]
 have hw : Hid (Wrote w (putN w b 0 vs) b vs.toArray t):=by
  rw [← splN_all cs vs hfit]
  exact wrote hg.out vs
 exact h _ hw
end
end Go.Mk

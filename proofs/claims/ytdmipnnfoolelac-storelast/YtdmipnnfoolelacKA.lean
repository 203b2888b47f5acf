/- Texts of the proof, merged: Mono Mem Read Math2 Math3. -/
import Derived.Still
import Derived.StillTail
import Derived.Below
import Derived.WalkKit
import Derived.WalkSpells
import Derived.WalkLawsBesides
import Derived.Laws.CopyOwn
import Derived.Deep.Draws
import Derived.ProofKit
import Derived.SizedLaws
import Derived.Lib.SmallJoins

namespace Go.Mk
open Go Go.RowKit

/-- The world has grown: nothing that was there has turned. -/
def Ext (w w' : World) : Prop := Below w.heap.size w w'
theorem Ext.refl (w : World) : Ext w w := Below.refl _ _
theorem Ext.trans {a b c : World} (h : Ext a b) (k : Ext b c) : Ext a c := Below.trans h (Below.mono k h.size)
theorem Ext.drew {a w : World} (h : Ext a w) : Ext a w.drew := Below.drew h
theorem Ext.cell {w w' : World} (h : Ext w w') {p : Addr} {v : Value} (hp : w.cell? p = some v) : w'.cell? p = some v := by
  by_cases hb : p.block < w.heap.size
  · rw [Below.cell h hb]; exact hp
  · simp [World.cell?, Array.getElem?_eq_none (Nat.le_of_not_lt hb)] at hp

/-- What is known of each slot's value, world by world. -/
abbrev Fm := Tmp → World → Prop
def upd (F : Fm) (d : Option Tmp) (φ : World → Prop) : Fm := fun t w => if d = some t then φ w else F t w
def knows (F : Fm) (ops : Array Oper) (o : Oper) (w : World) : Prop := ∀ t ∈ o.looksAt ops, F t w
def MonoP (φ : World → Prop) : Prop := ∀ w w', Ext w w' → φ w → φ w'

/-- none: it computes; inl c: it hands back just c; inr T: it hands back something of which T is known. -/
abbrev Kind := Option (Value ⊕ (Value → World → Prop))

section
variable (P : Program) (w0 : World) (ops : Array Oper) (kd : Nat → Kind)

def makesUpon (w : World) (T : Value → World → Prop) : Result Next → Prop
  | .ok (.value v) w' => Ext w w' ∧ T v w'
  | .ok .skip w' => Ext w w' ∧ T undef w'
  | .ok (.enter f args) w' => Ext w w' ∧ Calls P f args w' (fun e w'' => ∃ v, e = .returned v ∧ Ext w' w'' ∧ T v w'')
  | _ => False
def makes (o : Oper) (a : Act) (w : World) (T : Value → World → Prop) : Prop := makesUpon P w T ((execOp a.eval o).run P w)

def OkK (k : Kind) (o : Oper) (a : Act) (F : Fm) : Prop :=
  match k with
  | none => ∃ c, ∀ w, Ext w0 w → (execOp a.eval o).run P w = .ok (.value c) w
  | some (.inl c) => ∀ w, Ext w0 w → knows F ops o w → makes P o a w (fun v _ => v = c)
  | some (.inr T) => ∀ w, Ext w0 w → knows F ops o w → makes P o a w T

def ValK (k : Kind) (o : Oper) (a : Act) (v : Value) (φ : World → Prop) : Prop :=
  match k with
  | none => (∀ w, Ext w0 w → (execOp a.eval o).run P w = .ok (.value v) w) ∧ φ = fun _ => True
  | some (.inl c) => v = c ∧ φ = fun _ => True
  | some (.inr T) => φ = T v

def OkO (k : Kind) (o : Oper) (a : Act) (F : Fm) : Prop :=
  Region.wanted o (yielded ops a.tmps) = true → OkK P w0 ops k o a F
def ValO (k : Kind) (o : Oper) (a : Act) (v : Value) (φ : World → Prop) : Prop :=
  (Region.wanted o (yielded ops a.tmps) = true ∧ ValK P w0 k o a v φ) ∨ (Region.wanted o (yielded ops a.tmps) = false ∧ v = undef ∧ φ = fun _ => True)

def opM (i : Nat) (K : Act → Fm → Prop) (a : Act) (F : Fm) : Prop :=
  match ops[i]? with
  | none => K a F
  | some o => OkO P w0 ops (kd i) o a F ∧ ∀ v φ, ValO P w0 ops (kd i) o a v φ → K (a.put o.dst v) (upd F o.dst φ)

def anyM (Q : Act → Fm → Prop) : Nat → Array Bool → Act → Fm → Prop
  | 0, listed, a, F => Region.ready .any ops listed = [] ∧ Q a F
  | fuel + 1, listed, a, F =>
    (Region.ready .any ops listed = [] → Q a F) ∧
    ∀ i ∈ Region.ready .any ops listed, opM P w0 ops kd i (anyM Q fuel (listed.setIfInBounds i true)) a F

end

section
variable {P : Program} {w0 : World} {ops : Array Oper} {kd : Nat → Kind}

theorem knows_upd {F : Fm} {o : Oper} {d : Option Tmp} {φ : World → Prop} (h : ∀ t, d = some t → t ∉ o.looksAt ops) : knows (upd F d φ) ops o = knows F ops o := by
  funext w
  apply propext
  constructor
  · intro hk t ht
    have := hk t ht
    unfold upd at this
    rwa [if_neg (fun e => h t e ht)] at this
  · intro hk t ht
    unfold upd
    rw [if_neg (fun e => h t e ht)]
    exact hk t ht

theorem OkK_same {k : Kind} {o : Oper} {a a' : Act} {F F' : Fm} (he : execOp a'.eval o = execOp a.eval o) (hF : knows F' ops o = knows F ops o) (h : OkK P w0 ops k o a F) : OkK P w0 ops k o a' F' := by
  unfold OkK makes at *
  rw [he, hF]
  exact h

theorem ValK_same {k : Kind} {o : Oper} {a a' : Act} {v : Value} {φ : World → Prop} (he : execOp a'.eval o = execOp a.eval o) (h : ValK P w0 k o a v φ) : ValK P w0 k o a' v φ := by
  unfold ValK at *
  rw [he]
  exact h

theorem upd_comm (F : Fm) {x y : Option Tmp} (φ ψ : World → Prop) (h : ∀ d, x = some d → y ≠ some d) : upd (upd F x φ) y ψ = upd (upd F y ψ) x φ := by
  funext t w
  unfold upd
  by_cases h1 : x = some t
  · have h2 : y ≠ some t := h t h1
    simp [h1, h2]
  · simp [h1]

/-- There is something that it may yield. -/
theorem ValO_ex {k : Kind} {o : Oper} {a : Act} {F : Fm} (h : OkO P w0 ops k o a F) : ∃ v φ, ValO P w0 ops k o a v φ := by
  by_cases hw : Region.wanted o (yielded ops a.tmps) = true
  · have hk := h hw
    match k with
    | none => obtain ⟨c, hc⟩ := hk; exact ⟨c, _, .inl ⟨hw, hc, rfl⟩⟩
    | some (.inl c) => exact ⟨c, _, .inl ⟨hw, rfl, rfl⟩⟩
    | some (.inr T) => exact ⟨undef, _, .inl ⟨hw, rfl⟩⟩
  · exact ⟨undef, _, .inr ⟨by simpa using hw, rfl, rfl⟩⟩

theorem OkO_put {k : Kind} {o : Oper} {a : Act} {F : Fm} {d : Option Tmp} {v : Value} {φ : World → Prop} (hs : ∀ cs b, o.op ≠ .select cs b) (h : ∀ t, d = some t → t ∉ o.looksAt ops) :
    OkO P w0 ops k o (a.put d v) (upd F d φ) ↔ OkO P w0 ops k o a F := by
  unfold OkO
  rw [wanted_put o a d v h]
  have he := execOp_put (ops := ops) o hs a d v h
  have hk := knows_upd (ops := ops) (F := F) (φ := φ) h
  exact ⟨fun x y => OkK_same he.symm hk.symm (x y), fun x y => OkK_same he hk (x y)⟩

theorem ValO_put {k : Kind} {o : Oper} {a : Act} {d : Option Tmp} {v u : Value} {ψ : World → Prop} (hs : ∀ cs b, o.op ≠ .select cs b) (h : ∀ t, d = some t → t ∉ o.looksAt ops) :
    ValO P w0 ops k o (a.put d v) u ψ ↔ ValO P w0 ops k o a u ψ := by
  unfold ValO
  rw [wanted_put o a d v h]
  have he := execOp_put (ops := ops) o hs a d v h
  constructor
  · rintro (x | x)
    · exact .inl ⟨x.1, ValK_same he.symm x.2⟩
    · exact .inr x
  · rintro (x | x)
    · exact .inl ⟨x.1, ValK_same he x.2⟩
    · exact .inr x

/-- An operation that may come up now may be taken first. -/
theorem anyM_first {Q : Act → Fm → Prop} {i : Nat} {oi : Oper} (hi : ops[i]? = some oi) (hsel : ∀ (j : Nat) (o : Oper) cs b, ops[j]? = some o → o.op ≠ .select cs b) :
    ∀ (fuel : Nat) (listed : Array Bool) (a : Act) (F : Fm),
      (∀ j oj, ops[j]? = some oj → j ≠ i → listed.getD j true = false → (∀ e ∈ oj.after, Region.binds .any e = true → e.on ≠ i) → oi.apart ops oj = true) →
      i ∈ Region.ready .any ops listed → OkO P w0 ops (kd i) oi a F →
      (∀ v φ, ValO P w0 ops (kd i) oi a v φ → anyM P w0 ops kd Q fuel (listed.setIfInBounds i true) (a.put oi.dst v) (upd F oi.dst φ)) →
      anyM P w0 ops kd Q (fuel + 1) listed a F := by
  intro fuel
  induction fuel with
  | zero =>
    intro listed a F _ hr hok H
    refine ⟨fun h => (by rw [h] at hr; cases hr), fun j hj => ?_⟩
    by_cases hji : j = i
    · subst hji
      unfold opM
      rw [hi]
      exact ⟨hok, H⟩
    · have := ready_mono hj hji
      obtain ⟨v, φ, hv⟩ := ValO_ex hok
      rw [(H v φ hv).1] at this
      cases this
  | succ fuel ih =>
    intro listed a F hfree hr hok H
    refine ⟨fun h => (by rw [h] at hr; cases hr), fun j hj => ?_⟩
    by_cases hji : j = i
    · subst hji
      unfold opM
      rw [hi]
      exact ⟨hok, H⟩
    · obtain ⟨hjun, oj, hoj, hall⟩ := mem_ready.1 hj
      have hnot : ∀ e ∈ oj.after, Region.binds .any e = true → e.on ≠ i := fun e he hb heq => by
        have h1 := hall e he hb
        have h0 := (mem_ready.1 hr).1
        rw [heq] at h1
        rcases Nat.lt_or_ge i listed.size with h' | h'
        · simp [h'] at h0 h1; rw [h0] at h1; cases h1
        · simp [Array.getElem?_eq_none h'] at h1
      obtain ⟨a1, a2, a3⟩ := Oper.apart_spec (hfree j oj hoj hji hjun hnot)
      have hsi : ∀ cs b, oi.op ≠ .select cs b := fun cs b => hsel i oi cs b hi
      have hsj : ∀ cs b, oj.op ≠ .select cs b := fun cs b => hsel j oj cs b hoj
      have hfree' : ∀ k ok, ops[k]? = some ok → k ≠ i → (listed.setIfInBounds j true).getD k true = false →
          (∀ e ∈ ok.after, Region.binds .any e = true → e.on ≠ i) → oi.apart ops ok = true := fun k ok hk hki hun hno => by
        refine hfree k ok hk hki ?_ hno
        by_cases hjk : j = k
        · subst hjk; exact hjun
        · rw [getD_set_ne true hjk] at hun; exact hun
      have at_j : ∀ v φ, ValO P w0 ops (kd i) oi a v φ → OkO P w0 ops (kd j) oj (a.put oi.dst v) (upd F oi.dst φ) ∧
          ∀ u ψ, ValO P w0 ops (kd j) oj (a.put oi.dst v) u ψ →
            anyM P w0 ops kd Q fuel ((listed.setIfInBounds i true).setIfInBounds j true) ((a.put oi.dst v).put oj.dst u) (upd (upd F oi.dst φ) oj.dst ψ) := fun v φ hv => by
        have := (H v φ hv).2 j (ready_mono hj hji)
        unfold opM at this
        rw [hoj] at this
        exact this
      unfold opM
      rw [hoj]
      refine ⟨?_, fun u ψ hu => ?_⟩
      · obtain ⟨v, φ, hv⟩ := ValO_ex hok
        exact (OkO_put hsj a1).1 (at_j v φ hv).1
      · refine ih (listed.setIfInBounds j true) _ _ hfree' (ready_mono hr (Ne.symm hji)) ((OkO_put hsi a3).2 hok) fun v φ hv => ?_
        have hv' := (ValO_put hsi a3).1 hv
        have := (at_j v φ hv').2 u ψ ((ValO_put hsj a1).2 hu)
        rw [Array.setIfInBounds_comm _ _ hji, ← Act.put_comm a v u a2, ← upd_comm F φ ψ a2]
        exact this

/-- The walk that is typed: the operations in their order. -/
def wpM (P : Program) (w0 : World) (ops : Array Oper) (Q : Act → Fm → Prop) : List Oper → List Kind → Act → Fm → Prop
  | [], _, a, F => Q a F
  | o :: l, ks, a, F => OkO P w0 ops (ks.headD none) o a F ∧ ∀ v φ, ValO P w0 ops (ks.headD none) o a v φ → wpM P w0 ops Q l ks.tail (a.put o.dst v) (upd F o.dst φ)

theorem anyM_lex {Q : Act → Fm → Prop} (hs : Region.noSelect ops = true) (K : List Kind) : ∀ (l : List Oper) (ks : List Kind) (k : Nat) (listed : Array Bool) (a : Act) (F : Fm), (∀ j, l[j]? = ops[k + j]?) → (ks = K.drop k) →
    Region.lexFrom .any ops l.length k listed = true → wpM P w0 ops Q l ks a F → anyM P w0 ops (fun i => K.getD i none) Q l.length listed a F
  | [], _, _, _, _, _, _, _, hB, h => ⟨by simpa [Region.lexFrom] using hB, h⟩
  | o :: l, ks, k, listed, a, F, hl, hk, hB, h => by
    have h0 : ops[k]? = some o := by simpa using (hl 0).symm
    simp only [List.length_cons, Region.lexFrom, Bool.and_eq_true] at hB
    obtain ⟨⟨hr, hf⟩, hB'⟩ := hB
    have hd : ks.headD none = K.getD k none := by
      rw [hk, List.headD_eq_head?_getD, List.head?_drop, List.getD_eq_getElem?_getD]
    obtain ⟨hok, hrest⟩ := h
    rw [hd] at hok hrest
    exact anyM_first h0 (Region.noSelect_spec hs) l.length listed a F (Region.free_spec h0 hf) (by simpa using hr) hok fun v φ hv =>
      anyM_lex hs K l ks.tail (k + 1) _ _ _ (fun j => by have := hl (j + 1); simpa [Nat.add_assoc, Nat.add_comm 1 j] using this) (by rw [hk]; simp) hB' (hrest v φ hv)

/-- Sound: from every world that has grown out of the first, where what is known holds. -/
theorem any_of_anyM {Q : Act → Fm → Prop} {Q' : Exit → Act → World → Prop} (hT : ∀ i T, kd i = some (.inr T) → ∀ v, MonoP (T v))
    (hQ : ∀ a F w, Ext w0 w → (∀ t, F t w) → Q a F → Q' .normal a w) : ∀ (fuel : Nat) (listed : Array Bool) (a : Act) (F : Fm) (w : World), Ext w0 w → (∀ t, F t w) → (∀ t, MonoP (F t)) →
    anyM P w0 ops kd Q fuel listed a F → wpAny P .any ops Q' fuel listed a w
  | 0, _, _, _, _, hw, hF, _, h => ⟨h.1, hQ _ _ _ hw hF h.2⟩
  | fuel + 1, listed, a, F, w, hw, hF, hM, h => by
    refine ⟨fun h0 => hQ _ _ _ hw hF (h.1 h0), fun i hi => ?_⟩
    have hi' := h.2 i hi
    unfold opM at hi'
    unfold wpOp
    cases ho : ops[i]? with
    | none => rw [ho] at hi'; exact any_of_anyM hT hQ fuel _ _ _ _ hw hF hM hi'
    | some o =>
      rw [ho] at hi'
      obtain ⟨hok, hnext⟩ := hi'
      simp only []
      by_cases hwt : Region.wanted o (yielded ops a.tmps) = true
      · rw [if_pos hwt]
        refine .inl ?_
        have hk := hok hwt
        have hkn : knows F ops o w := fun t _ => hF t
        unfold OkK at hk
        -- what is known stays known
        have go : ∀ (v : Value) (φ : World → Prop) (w' : World), Ext w w' → φ w' → MonoP φ → ValO P w0 ops (kd i) o a v φ → wpAny P .any ops Q' fuel (listed.setIfInBounds i true) (a.put o.dst v) w' := fun v φ w' he hφ hm hv => by
          refine any_of_anyM hT hQ fuel _ _ _ _ (hw.trans he) ?_ ?_ (hnext v φ hv)
          · intro t
            unfold upd
            split
            · exact hφ
            · exact hM t _ _ he (hF t)
          · intro t w1 w2 h12
            unfold upd
            split
            · exact hm _ _ h12
            · exact hM t _ _ h12
        have loud : ∀ T : Value → World → Prop, (∀ v, MonoP (T v)) → (∀ v w', Ext w w' → T v w' → wpAny P .any ops Q' fuel (listed.setIfInBounds i true) (a.put o.dst v) w') → makes P o a w T → o.wp P a w (wpAny P .any ops Q' fuel (listed.setIfInBounds i true)) Q' := fun T _ hgo hmk => by
          unfold makes at hmk
          unfold Oper.wp
          generalize (execOp a.eval o).run P w = r at *
          cases r with
          | ok n w' =>
            cases n <;> simp only [makesUpon] at hmk <;> simp only [Oper.upon]
            case value u => exact hgo u w' hmk.1 hmk.2
            case skip => exact hgo _ w' hmk.1 hmk.2
            case enter f args =>
              refine Calls.mono hmk.2 fun e w'' he => ?_
              obtain ⟨v, rfl, h2, h3⟩ := he
              exact hgo v w'' (hmk.1.trans h2) h3
          | halt x w' => simp only [makesUpon] at hmk
        cases hkd : kd i with
        | none =>
          rw [hkd] at hk
          obtain ⟨c, hc⟩ := hk
          unfold Oper.wp
          rw [hc w hw]
          simp only [Oper.upon]
          exact go c (fun _ => True) w (Ext.refl _) trivial (fun _ _ _ h => h) (.inl ⟨hwt, by rw [hkd]; exact ⟨hc, rfl⟩⟩)
        | some s =>
          cases s with
          | inl c =>
            rw [hkd] at hk
            refine loud _ (fun v w1 w2 _ h => h) (fun v w' he hv => ?_) (hk w hw hkn)
            subst hv
            exact go _ (fun _ => True) w' he trivial (fun _ _ _ h => h) (.inl ⟨hwt, by rw [hkd]; exact ⟨rfl, rfl⟩⟩)
          | inr T =>
            rw [hkd] at hk
            exact loud T (hT i T hkd) (fun v w' he hv => go v (T v) w' he hv (hT i T hkd v) (.inl ⟨hwt, by rw [hkd]; rfl⟩)) (hk w hw hkn)
      · rw [if_neg hwt]
        refine any_of_anyM hT hQ fuel _ _ _ _ hw ?_ ?_ (hnext undef (fun _ => True) (.inr ⟨by simpa using hwt, rfl, rfl⟩))
        · intro t
          unfold upd
          split
          · trivial
          · exact hF t
        · intro t w1 w2 h12
          unfold upd
          split
          · exact id
          · exact hM t _ _ h12

section steps
variable {Q : Act → Fm → Prop} {o : Oper} {l : List Oper} {ks : List Kind} {a : Act} {F : Fm}

theorem wpM_nil (h : Q a F) : wpM P w0 ops Q [] ks a F := h

/-- An operation that only computes: what follows behind a variable. -/
theorem wpM_p (h : ∀ K : Act → Prop, (∀ a', wpM P w0 ops Q l ks a' (upd F o.dst (fun _ => True)) → K a') →
    if Region.wanted o (yielded ops a.tmps) then ∃ c, (∀ w, (execOp a.eval o).run P w = .ok (.value c) w) ∧ K (a.put o.dst c) else K (a.put o.dst undef)) : wpM P w0 ops Q (o :: l) (none :: ks) a F := by
  have h := h _ (fun _ h => h)
  by_cases hw : Region.wanted o (yielded ops a.tmps) = true
  · rw [if_pos hw] at h
    obtain ⟨c, hc, hk⟩ := h
    refine ⟨fun _ => ⟨c, fun w _ => hc w⟩, fun v φ hv => ?_⟩
    rcases hv with ⟨_, hv, rfl⟩ | ⟨hn, _, _⟩
    · have := hv w0 (Ext.refl _)
      rw [hc] at this
      cases this
      exact hk
    · rw [hw] at hn; cases hn
  · rw [if_neg hw] at h
    refine ⟨fun h' => absurd h' hw, fun v φ hv => ?_⟩
    rcases hv with ⟨hn, _⟩ | ⟨_, rfl, rfl⟩
    · exact absurd hn hw
    · exact h

/-- An operation that looks into memory that was there: its value named. -/
theorem wpM_q (c : Value) (hw : Region.wanted o (yielded ops a.tmps) = true) (hc : ∀ w, Ext w0 w → (execOp a.eval o).run P w = .ok (.value c) w) (hk : wpM P w0 ops Q l ks (a.put o.dst c) (upd F o.dst (fun _ => True))) :
    wpM P w0 ops Q (o :: l) (none :: ks) a F := by
  refine ⟨fun _ => ⟨c, hc⟩, fun v φ hv => ?_⟩
  rcases hv with ⟨_, hv, rfl⟩ | ⟨hn, _, _⟩
  · have := hv w0 (Ext.refl _)
    rw [hc _ (Ext.refl _)] at this
    cases this
    exact hk
  · rw [hw] at hn; cases hn

/-- An operation that its guard keeps out. -/
theorem wpM_skip (hw : Region.wanted o (yielded ops a.tmps) = false) (hk : wpM P w0 ops Q l ks.tail (a.put o.dst undef) (upd F o.dst (fun _ => True))) : wpM P w0 ops Q (o :: l) ks a F := by
  refine ⟨fun h => (by rw [hw] at h; cases h), fun v φ hv => ?_⟩
  rcases hv with ⟨hn, _⟩ | ⟨_, rfl, rfl⟩
  · rw [hw] at hn; cases hn
  · exact hk

theorem wpM_x (c : Value) (hw : Region.wanted o (yielded ops a.tmps) = true) (hc : ∀ w, Ext w0 w → knows F ops o w → makes P o a w (fun v _ => v = c)) (hk : wpM P w0 ops Q l ks (a.put o.dst c) (upd F o.dst (fun _ => True))) :
    wpM P w0 ops Q (o :: l) (some (.inl c) :: ks) a F := by
  refine ⟨fun _ => hc, fun v φ hv => ?_⟩
  rcases hv with ⟨_, rfl, rfl⟩ | ⟨hn, _, _⟩
  · exact hk
  · rw [hw] at hn; cases hn

theorem wpM_l (T : Value → World → Prop) (hw : Region.wanted o (yielded ops a.tmps) = true) (hc : ∀ w, Ext w0 w → knows F ops o w → makes P o a w T) (hk : ∀ v, wpM P w0 ops Q l ks (a.put o.dst v) (upd F o.dst (T v))) :
    wpM P w0 ops Q (o :: l) (some (.inr T) :: ks) a F := by
  refine ⟨fun _ => hc, fun v φ hv => ?_⟩
  rcases hv with ⟨_, rfl⟩ | ⟨hn, _, _⟩
  · exact hk v
  · rw [hw] at hn; cases hn

/-- A call, by its contract. -/
theorem makes_call {f : FuncId} {args : Array Value} {w : World} {T : Value → World → Prop} (hrun : (execOp a.eval o).run P w = .ok (.enter f args) w)
    (hc : Calls P f args w (fun e w'' => ∃ v, e = .returned v ∧ Ext w w'' ∧ T v w'')) : makes P o a w T := by
  unfold makes
  rw [hrun]
  exact ⟨Ext.refl _, hc⟩

/-- An operation that makes memory. -/
theorem makes_value {v : Value} {w w' : World} {T : Value → World → Prop} (hrun : (execOp a.eval o).run P w = .ok (.value v) w') (he : Ext w w') (ht : T v w') : makes P o a w T := by
  unfold makes
  rw [hrun]
  exact ⟨he, ht⟩
end steps

def mono1 : Kind → Prop
  | some (.inr T) => ∀ v, MonoP (T v)
  | _ => True

def monoAll : List Kind → Prop
  | [] => True
  | k :: K => mono1 k ∧ monoAll K
theorem monoAll_mem : ∀ {K : List Kind}, monoAll K → ∀ k ∈ K, mono1 k
  | [], _, k, hk => by cases hk
  | _ :: _, h, k, hk => by
    rcases List.mem_cons.1 hk with rfl | hk
    · exact h.1
    · exact monoAll_mem h.2 k hk

/-- ONE WALK SERVES EVERY ORDER. -/
theorem wp_region_mono {id : Nat} {Q : Exit → Act → World → Prop} {a : Act} {w : World} {l : List Oper} (K : List Kind) (hm : P.follows .mixedOrders = true) (hB : Region.lexB .any l.toArray = true)
    (hT : monoAll K)
    (h : wpM P w l.toArray (fun a' F => ∀ w', Ext w w' → (∀ t, F t w') → Q .normal a' w') l K a (fun _ _ => True)) : (Code.region id l.toArray true).wp P Q a w := by
  replace hT := monoAll_mem hT
  simp only [Region.lexB, Bool.and_eq_true] at hB
  refine wp_region_any hm (any_of_anyM (w0 := w) (kd := fun i => K.getD i none) (Q := fun a' F => ∀ w', Ext w w' → (∀ t, F t w') → Q .normal a' w') ?_ (fun a F w' hw hF h => h w' hw hF) _ _ _ (fun _ _ => True) _ ((Ext.refl w).drew) (fun _ => trivial) (fun _ _ _ _ h => h) ?_)
  · intro i T hi v
    have hmem : some (Sum.inr T) ∈ K := by
      rw [List.getD_eq_getElem?_getD] at hi
      cases hx : K[i]? with
      | none => rw [hx] at hi; cases hi
      | some y => rw [hx] at hi; simp at hi; subst hi; exact List.mem_of_getElem? hx
    exact hT _ hmem v
  · have := anyM_lex (P := P) (w0 := w) (ops := l.toArray) hB.1 K l K 0 (Array.replicate l.toArray.size false) a (fun _ _ => True) (by simp) (by simp) (by simpa using hB.2) h
    simpa using this

/-! ### A region whose last operations are forced, one behind the other, and come behind all others: these may write. -/

def headM (P : Program) (w0 : World) (ops : Array Oper) (kd : Nat → Kind) (n : Nat) (L : Array Bool → Act → Fm → Prop) : Nat → Array Bool → Act → Fm → Prop
  | 0, listed, a, F => L listed a F
  | f + 1, listed, a, F =>
    Region.ready .any ops listed ≠ [] ∧ ∀ i ∈ Region.ready .any ops listed, i < n ∧ opM P w0 ops kd i (headM P w0 ops kd n L f (listed.setIfInBounds i true)) a F

theorem headM_first {n i : Nat} {oi : Oper} {L : Array Bool → Act → Fm → Prop} (hi : ops[i]? = some oi) (hsel : ∀ (j : Nat) (o : Oper) cs b, ops[j]? = some o → o.op ≠ .select cs b)
    (hs : Region.sinkB .any ops n = true) (hc : Region.chainB .any ops n = true) (hn : n < ops.size) (hin : i < n)
    (hdone : ∀ listed a F, L listed a F → ∀ j ∈ Region.ready .any ops listed, n ≤ j) :
    ∀ (f : Nat) (listed : Array Bool) (a : Act) (F : Fm), HeadInv .any ops n listed →
      (∀ j oj, ops[j]? = some oj → j ≠ i → listed.getD j true = false → (∀ e ∈ oj.after, Region.binds .any e = true → e.on ≠ i) → oi.apart ops oj = true) →
      i ∈ Region.ready .any ops listed → OkO P w0 ops (kd i) oi a F →
      (∀ v φ, ValO P w0 ops (kd i) oi a v φ → headM P w0 ops kd n L f (listed.setIfInBounds i true) (a.put oi.dst v) (upd F oi.dst φ)) →
      headM P w0 ops kd n L (f + 1) listed a F := by
  intro f
  induction f with
  | zero =>
    intro listed a F inv _ hr hok H
    have hun := (mem_ready.1 hr).1
    refine ⟨fun h => (by rw [h] at hr; cases hr), fun j hj => ?_⟩
    have hjn : j < n := by
      rcases Nat.lt_or_ge j n with h | h
      · exact h
      · exact absurd hj (tail_waits hs hc hn inv _ i rfl hin hun j h)
    refine ⟨hjn, ?_⟩
    by_cases hji : j = i
    · subst hji
      unfold opM
      rw [hi]
      exact ⟨hok, H⟩
    · obtain ⟨v, φ, hv⟩ := ValO_ex hok
      have := hdone _ _ _ (H v φ hv) j (ready_mono hj hji)
      omega
  | succ f ih =>
    intro listed a F inv hfree hr hok H
    have hun := (mem_ready.1 hr).1
    refine ⟨fun h => (by rw [h] at hr; cases hr), fun j hj => ?_⟩
    have hjn : j < n := by
      rcases Nat.lt_or_ge j n with h | h
      · exact h
      · exact absurd hj (tail_waits hs hc hn inv _ i rfl hin hun j h)
    refine ⟨hjn, ?_⟩
    by_cases hji : j = i
    · subst hji
      unfold opM
      rw [hi]
      exact ⟨hok, H⟩
    · obtain ⟨hjun, oj, hoj, hall⟩ := mem_ready.1 hj
      have hnot : ∀ e ∈ oj.after, Region.binds .any e = true → e.on ≠ i := fun e he hb heq => by
        have h1 := hall e he hb
        rw [heq, getD_both hun] at h1
        cases h1
      obtain ⟨a1, a2, a3⟩ := Oper.apart_spec (hfree j oj hoj hji hjun hnot)
      have hsi : ∀ cs b, oi.op ≠ .select cs b := fun cs b => hsel i oi cs b hi
      have hsj : ∀ cs b, oj.op ≠ .select cs b := fun cs b => hsel j oj cs b hoj
      have hfree' : ∀ k ok, ops[k]? = some ok → k ≠ i → (listed.setIfInBounds j true).getD k true = false →
          (∀ e ∈ ok.after, Region.binds .any e = true → e.on ≠ i) → oi.apart ops ok = true := fun k ok hk hki hun hno => by
        refine hfree k ok hk hki ?_ hno
        by_cases hjk : j = k
        · subst hjk; exact hjun
        · rw [getD_set_ne true hjk] at hun; exact hun
      have at_j : ∀ v φ, ValO P w0 ops (kd i) oi a v φ → OkO P w0 ops (kd j) oj (a.put oi.dst v) (upd F oi.dst φ) ∧
          ∀ u ψ, ValO P w0 ops (kd j) oj (a.put oi.dst v) u ψ →
            headM P w0 ops kd n L f ((listed.setIfInBounds i true).setIfInBounds j true) ((a.put oi.dst v).put oj.dst u) (upd (upd F oi.dst φ) oj.dst ψ) := fun v φ hv => by
        have := ((H v φ hv).2 j (ready_mono hj hji)).2
        unfold opM at this
        rw [hoj] at this
        exact this
      unfold opM
      rw [hoj]
      refine ⟨?_, fun u ψ hu => ?_⟩
      · obtain ⟨v, φ, hv⟩ := ValO_ex hok
        exact (OkO_put hsj a1).1 (at_j v φ hv).1
      · refine ih (listed.setIfInBounds j true) _ _ (inv.set hj hjn) hfree' (ready_mono hr (Ne.symm hji)) ((OkO_put hsi a3).2 hok) fun v φ hv => ?_
        have hv' := (ValO_put hsi a3).1 hv
        have := (at_j v φ hv').2 u ψ ((ValO_put hsj a1).2 hu)
        rw [Array.setIfInBounds_comm _ _ hji, ← Act.put_comm a v u a2, ← upd_comm F φ ψ a2]
        exact this

theorem headM_lex {n g : Nat} {Lq : Act → Fm → Prop} (K : List Kind) (hsel : Region.noSelect ops = true) (hs : Region.sinkB .any ops n = true) (hc : Region.chainB .any ops n = true) (hn : n < ops.size) :
    ∀ (l : List Oper) (ks : List Kind) (k : Nat) (listed : Array Bool) (a : Act) (F : Fm), (∀ j, j < l.length → l[j]? = ops[k + j]?) → (ks = K.drop k) → k + l.length = n → HeadInv .any ops n listed →
    Region.lexHead .any ops g l.length k listed = true → wpM P w0 ops Lq l ks a F →
    headM P w0 ops (fun i => K.getD i none) n (fun listed' a' F' => Region.seqB .any ops g n listed' = true ∧ Lq a' F') l.length listed a F
  | [], _, k, listed, a, F, _, _, hk, _, hB, h => by
    have : k = n := by simpa using hk
    subst this
    exact ⟨by simpa [Region.lexHead] using hB, h⟩
  | o :: l, ks, k, listed, a, F, hl, hks, hk, inv, hB, h => by
    have h0 : ops[k]? = some o := by simpa using (hl 0 (by simp)).symm
    simp only [List.length_cons, Region.lexHead, Bool.and_eq_true] at hB
    obtain ⟨⟨hr, hf⟩, hB'⟩ := hB
    have hkn : k < n := by simp only [List.length_cons] at hk; omega
    have hr' : k ∈ Region.ready .any ops listed := by simpa using hr
    have hd : ks.headD none = K.getD k none := by
      rw [hks, List.headD_eq_head?_getD, List.head?_drop, List.getD_eq_getElem?_getD]
    obtain ⟨hok, hrest⟩ := h
    rw [hd] at hok hrest
    exact headM_first h0 (Region.noSelect_spec hsel) hs hc hn hkn (fun listed' a' F' hL => seqB_ready hL.1) l.length listed a F inv (Region.free_spec h0 hf) hr' hok fun v φ hv =>
      headM_lex K hsel hs hc hn l ks.tail (k + 1) _ _ _ (fun j hj => by have := hl (j + 1) (by simp; omega); simpa [Nat.add_assoc, Nat.add_comm 1 j] using this) (by rw [hks]; simp) (by simp only [List.length_cons] at hk; omega) (inv.set hr' hkn) hB' (hrest v φ hv)

/-- One operation, sound. -/
theorem opM_sound {i : Nat} {K : Act → Fm → Prop} {K' : Act → World → Prop} {Q' : Exit → Act → World → Prop} {a : Act} {F : Fm} {w : World} (hT : ∀ i T, kd i = some (.inr T) → ∀ v, MonoP (T v))
    (hw : Ext w0 w) (hF : ∀ t, F t w) (hM : ∀ t, MonoP (F t)) (hK : ∀ a F w, Ext w0 w → (∀ t, F t w) → (∀ t, MonoP (F t)) → K a F → K' a w)
    (hi' : opM P w0 ops kd i K a F) : wpOp P ops Q' i K' a w := by
  unfold opM at hi'
  unfold wpOp
  cases ho : ops[i]? with
  | none => rw [ho] at hi'; exact hK _ _ _ hw hF hM hi'
  | some o =>
    rw [ho] at hi'
    obtain ⟨hok, hnext⟩ := hi'
    simp only []
    by_cases hwt : Region.wanted o (yielded ops a.tmps) = true
    · rw [if_pos hwt]
      refine .inl ?_
      have hk := hok hwt
      have hkn : knows F ops o w := fun t _ => hF t
      unfold OkK at hk
      have go : ∀ (v : Value) (φ : World → Prop) (w' : World), Ext w w' → φ w' → MonoP φ → ValO P w0 ops (kd i) o a v φ → K' (a.put o.dst v) w' := fun v φ w' he hφ hm hv => by
        refine hK _ _ _ (hw.trans he) ?_ ?_ (hnext v φ hv)
        · intro t
          unfold upd
          split
          · exact hφ
          · exact hM t _ _ he (hF t)
        · intro t w1 w2 h12
          unfold upd
          split
          · exact hm _ _ h12
          · exact hM t _ _ h12
      have loud : ∀ T : Value → World → Prop, (∀ v w', Ext w w' → T v w' → K' (a.put o.dst v) w') → makes P o a w T → o.wp P a w K' Q' := fun T hgo hmk => by
        unfold makes at hmk
        unfold Oper.wp
        generalize (execOp a.eval o).run P w = r at *
        cases r with
        | ok n w' =>
          cases n <;> simp only [makesUpon] at hmk <;> simp only [Oper.upon]
          case value u => exact hgo u w' hmk.1 hmk.2
          case skip => exact hgo _ w' hmk.1 hmk.2
          case enter f args =>
            refine Calls.mono hmk.2 fun e w'' he => ?_
            obtain ⟨v, rfl, h2, h3⟩ := he
            exact hgo v w'' (hmk.1.trans h2) h3
        | halt x w' => simp only [makesUpon] at hmk
      cases hkd : kd i with
      | none =>
        rw [hkd] at hk
        obtain ⟨c, hc⟩ := hk
        unfold Oper.wp
        rw [hc w hw]
        simp only [Oper.upon]
        exact go c (fun _ => True) w (Ext.refl _) trivial (fun _ _ _ h => h) (.inl ⟨hwt, by rw [hkd]; exact ⟨hc, rfl⟩⟩)
      | some s =>
        cases s with
        | inl c =>
          rw [hkd] at hk
          refine loud _ (fun v w' he hv => ?_) (hk w hw hkn)
          subst hv
          exact go _ (fun _ => True) w' he trivial (fun _ _ _ h => h) (.inl ⟨hwt, by rw [hkd]; exact ⟨rfl, rfl⟩⟩)
        | inr T =>
          rw [hkd] at hk
          exact loud T (fun v w' he hv => go v (T v) w' he hv (hT i T hkd v) (.inl ⟨hwt, by rw [hkd]; rfl⟩)) (hk w hw hkn)
    · rw [if_neg hwt]
      refine hK _ _ _ hw ?_ ?_ (hnext undef (fun _ => True) (.inr ⟨by simpa using hwt, rfl, rfl⟩))
      · intro t
        unfold upd
        split
        · trivial
        · exact hF t
      · intro t w1 w2 h12
        unfold upd
        split
        · exact id
        · exact hM t _ _ h12

theorem any_of_headM {n g : Nat} {L : Array Bool → Act → Fm → Prop} {Q' : Exit → Act → World → Prop} (hT : ∀ i T, kd i = some (.inr T) → ∀ v, MonoP (T v))
    (hL : ∀ listed a F w, Ext w0 w → (∀ t, F t w) → L listed a F → wpAny P .any ops Q' g listed a w) :
    ∀ (f : Nat) (listed : Array Bool) (a : Act) (F : Fm) (w : World), Ext w0 w → (∀ t, F t w) → (∀ t, MonoP (F t)) → headM P w0 ops kd n L f listed a F → wpAny P .any ops Q' (f + g) listed a w
  | 0, listed, a, F, w, hw, hF, _, h => by rw [Nat.zero_add]; exact hL _ _ _ _ hw hF h
  | f + 1, listed, a, F, w, hw, hF, hM, h => by
    rw [show f + 1 + g = (f + g) + 1 by omega]
    exact ⟨fun h0 => absurd h0 h.1, fun i hi => opM_sound hT hw hF hM (fun a F w hw hF hM h => any_of_headM hT hL f _ a F w hw hF hM h) (h.2 i hi).2⟩

theorem mono_of_list {K : List Kind} (hT : ∀ k ∈ K, mono1 k) : ∀ i T, (fun i => K.getD i none) i = some (Sum.inr T) → ∀ v, MonoP (T v) := by
  intro i T hi v
  have hmem : some (Sum.inr T) ∈ K := by
    simp only [] at hi
    rw [List.getD_eq_getElem?_getD] at hi
    cases hx : K[i]? with
    | none => rw [hx] at hi; cases hi
    | some y => rw [hx] at hi; simp at hi; subst hi; exact List.mem_of_getElem? hx
  exact hT _ hmem v

/-- ONE WALK SERVES EVERY ORDER OF THE HEAD (the first n operations); the tail is walked as it stands. -/
theorem wp_region_mono_tail {id : Nat} {Q : Exit → Act → World → Prop} {a : Act} {w : World} {l : List Oper} (n : Nat) (K : List Kind) (hm : P.follows .mixedOrders = true) (hB : Region.lexTailB .any l.toArray n = true)
    (hT : monoAll K)
    (h : wpM P w l.toArray (fun a' F => ∀ w', Ext w w' → (∀ t, F t w') → wpList P l.toArray Q (l.drop n) a' w') (l.take n) K a (fun _ _ => True)) : (Code.region id l.toArray true).wp P Q a w := by
  replace hT := monoAll_mem hT
  simp only [Region.lexTailB, Bool.and_eq_true, decide_eq_true_eq] at hB
  obtain ⟨⟨⟨⟨hsel, hn⟩, hs⟩, hc⟩, hlex⟩ := hB
  have hn' : n < l.length := by simpa using hn
  have htl : (l.take n).length = n := by simp; omega
  have hdl : (l.drop n).length = l.toArray.size - n := by simp
  have inv0 : HeadInv .any l.toArray n (Array.replicate l.toArray.size false) :=
    ⟨by simp, fun j oj _ hl => (by rw [getD_replicate_false] at hl; cases hl), fun t _ ht => getD_in (by simpa using ht) (getD_replicate_false _ _)⟩
  have H := headM_lex (P := P) (w0 := w) (g := l.toArray.size - n) K hsel hs hc hn (l.take n) K 0 _ a (fun _ _ => True) (fun j hj => by
    have hj' : j < n := by rw [htl] at hj; exact hj
    simp [hj']) (by simp) (by simpa using htl) inv0 (by rw [htl]; exact hlex) h
  refine wp_region_any hm ?_
  have := any_of_headM (Q' := Q) (g := l.toArray.size - n) (mono_of_list hT) (fun listed a' F w' hw hF hL => by
    have := wpAny_of_seq (md := .any) (Q' := Q) (l.drop n) n listed a' w' (fun j => by simp [List.getElem?_drop]) (by rw [hdl]; exact hL.1) (hL.2 w' hw hF)
    rwa [hdl] at this) _ _ _ _ ({ w with drawn := w.drawn + 1 }) ((Ext.refl w).drew) (fun _ => trivial) (fun _ _ _ _ h => h) H
  rw [htl, show n + (l.toArray.size - n) = l.toArray.size by omega] at this
  exact this

end
end Go.Mk

namespace Go.Mk
open Go Go.RowKit

theorem Ext.drewN {a w : World} (h : Ext a w) (n : Nat) : Ext a (w.drewN n) := ⟨h.os, h.tape, h.output, h.size, h.block⟩
theorem Ext.of_drewN (w : World) (n : Nat) : Ext w (w.drewN n) := (Ext.refl w).drewN n

abbrev I (n : Int) : Value := .int .i64 n

/-- The slice v has n elements of 'size' cells each, and these are its cells. -/
def Row (w : World) (size : Nat) (v : Value) (n : Nat) (cs : List Value) : Prop :=
  cs.length = n * size ∧ ∃ ao cap, v = .slice ao n cap ∧ n ≤ cap ∧ cap ≤ maxLen ∧ (ao = none → cap = 0) ∧ ∀ j u, cs[j]? = some u → ∃ b off, ao = some ⟨b, off, none⟩ ∧ w.cell? ⟨b, off + j, none⟩ = some u

theorem Row.ext {w w' : World} {size : Nat} {v : Value} {n : Nat} {cs : List Value} (h : Row w size v n cs) (he : Ext w w') : Row w' size v n cs := by
  obtain ⟨h1, ao, cap, h2, h3, h4, h0, h5⟩ := h
  exact ⟨h1, ao, cap, h2, h3, h4, h0, fun j u hj => by obtain ⟨b, off, e, hc⟩ := h5 j u hj; exact ⟨b, off, e, he.cell hc⟩⟩

theorem Row.of_owns {w : World} {base e size : Nat} {v : Value} {n : Nat} {cs : List Value} (h : w.ownsRow base e size v n cs) : Row w size v n cs := by
  obtain ⟨h1, h2⟩ := h
  refine ⟨h1, ?_⟩
  rcases h2 with ⟨rfl, rfl⟩ | ⟨g, cap, cur, rfl, hb, hg, hn, hm, hs, ht⟩
  · refine ⟨none, 0, rfl, Nat.le_refl _, Nat.zero_le _, fun _ => rfl, fun j u hj => ?_⟩
    have : cs = [] := List.eq_nil_of_length_eq_zero (by simpa using h1)
    subst this
    simp at hj
  · refine ⟨_, cap, rfl, hn, hm, fun h => (by cases h), fun j u hj => ⟨g, 0, rfl, ?_⟩⟩
    have hj' : j < n * size := by rw [← h1]; exact (List.getElem?_eq_some_iff.1 hj).1
    rw [← ht, List.getElem?_take, if_pos hj'] at hj
    simp only [World.cell?, Nat.zero_add, hg]
    simpa using hj

/-- A slice of ints that reads as xs. -/
def Ints (w : World) (v : Value) (xs : List Int) : Prop := Row w 1 v xs.length (xs.map I)
theorem Ints.ext {w w' : World} {v : Value} {xs : List Int} (h : Ints w v xs) (he : Ext w w') : Ints w' v xs := Row.ext h he

/-- The slice's own form, as the walk wants it. -/
theorem Ints.form {w : World} {v : Value} {xs : List Int} (h : Ints w v xs) : ∃ ao cap, v = .slice ao xs.length cap ∧ xs.length ≤ cap ∧ cap ≤ maxLen ∧
    ∀ k, k < xs.length → ∃ b off, ao = some ⟨b, off, none⟩ ∧ w.cell? ⟨b, off + k, none⟩ = some (I (xs.getD k 0)) := by
  obtain ⟨_, ao, cap, h2, h3, h4, _, h5⟩ := h
  refine ⟨ao, cap, h2, h3, h4, fun k hk => ?_⟩
  exact h5 k _ (by simp [hk])

/-- A slice of writes (pairs of ints) that reads as l. -/
def cells2 (l : List (Int × Int)) : List Value := l.flatMap fun p => [I p.1, I p.2]
theorem length_cells2 (l : List (Int × Int)) : (cells2 l).length = l.length * 2 := by
  unfold cells2
  induction l with
  | nil => rfl
  | cons p l ih => simp [List.flatMap_cons, ih]; omega
theorem cells2_append (l m : List (Int × Int)) : cells2 (l ++ m) = cells2 l ++ cells2 m := by simp [cells2]
theorem cells2_at (l : List (Int × Int)) (k : Nat) (h : k < l.length) : (cells2 l)[k * 2]? = some (I (l.getD k (0, 0)).1) ∧ (cells2 l)[k * 2 + 1]? = some (I (l.getD k (0, 0)).2) := by
  induction l generalizing k with
  | nil => simp at h
  | cons p l ih =>
    cases k with
    | zero => exact ⟨rfl, rfl⟩
    | succ k =>
      have := ih k (by simpa using h)
      rw [show (k + 1) * 2 = k * 2 + 2 by omega, show k * 2 + 2 + 1 = k * 2 + 1 + 2 by omega]
      exact this

theorem cells2_set (l : List (Int × Int)) (k : Nat) (p : Int × Int) : cells2 (l.set k p) = ((cells2 l).set (k * 2) (I p.1)).set (k * 2 + 1) (I p.2) := by
  induction l generalizing k with
  | nil => simp [cells2]
  | cons q l ih =>
    cases k with
    | zero => rfl
    | succ k =>
      rw [show (k + 1) * 2 = k * 2 + 2 by omega, show k * 2 + 2 + 1 = k * 2 + 1 + 2 by omega]
      show I q.1 :: I q.2 :: cells2 (l.set k p) = _
      rw [ih]
      rfl

def Writes (w : World) (v : Value) (l : List (Int × Int)) : Prop := Row w 2 v l.length (cells2 l)
theorem Writes.ext {w w' : World} {v : Value} {l : List (Int × Int)} (h : Writes w v l) (he : Ext w w') : Writes w' v l := Row.ext h he
theorem Writes.form {w : World} {v : Value} {l : List (Int × Int)} (h : Writes w v l) : ∃ ao cap, v = .slice ao l.length cap ∧ l.length ≤ cap ∧ cap ≤ maxLen ∧
    ∀ k, k < l.length → ∃ b off, ao = some ⟨b, off, none⟩ ∧ w.cell? ⟨b, off + k * 2, none⟩ = some (I (l.getD k (0, 0)).1) ∧ w.cell? ⟨b, off + k * 2 + 1, none⟩ = some (I (l.getD k (0, 0)).2) := by
  obtain ⟨_, ao, cap, h2, h3, h4, _, h5⟩ := h
  refine ⟨ao, cap, h2, h3, h4, fun k hk => ?_⟩
  obtain ⟨c1, c2⟩ := cells2_at l k hk
  obtain ⟨b, off, e, hc⟩ := h5 _ _ c1
  obtain ⟨b', off', e', hc'⟩ := h5 _ _ c2
  rw [e] at e'
  simp only [Option.some.injEq, Addr.mk.injEq, and_true] at e'
  obtain ⟨rfl, rfl⟩ := e'
  exact ⟨b, off, e, hc, hc'⟩

theorem mapI_one (xs : List Int) : ∀ u ∈ xs.map I, u.oneCell' = true := ints_oneCell _ _
theorem cells2_one (l : List (Int × Int)) : ∀ u ∈ cells2 l, u.oneCell' = true := by
  intro u hu
  unfold cells2 at hu
  rw [List.mem_flatMap] at hu
  obtain ⟨p, _, hp⟩ := hu
  simp at hp
  rcases hp with rfl | rfl <;> rfl

theorem add_plain (b off j : Nat) : (⟨b, off, none⟩ : Addr).add j = ⟨b, off + j, none⟩ := by
  unfold Addr.add
  split
  · simp [*]
  · rfl

/-- copy(dst, src), both of one length, dst the call's own. -/
theorem run_copy_all {P : Program} (w : World) (t ty e : TypeId) (hu : P.underlying t = some (.slice e)) (hsz : (P.info? e).map (·.size) = some 1) (base g n : Nat) (v : Value) (cs old : List Value)
    (hown : w.ownsRow base e 1 (.slice (some ⟨g, 0, none⟩) n n) n old) (hv : Row w 1 v n cs) (h1 : ∀ u ∈ cs, u.oneCell' = true) :
    ∃ w', (Builtin.copy_ #[t, t] ty #[.slice (some ⟨g, 0, none⟩) n n, v]).run P w = .ok (goInt n) w' ∧ w'.ownsRow base e 1 (.slice (some ⟨g, 0, none⟩) n n) n cs ∧ w.grownBy w' (some g) := by
  obtain ⟨hl, ao, cap, rfl, hc, hm, _, hcell⟩ := hv
  obtain ⟨ho, ho'⟩ := hown
  rcases ho' with ⟨h, _⟩ | ⟨g', cap', cur, h, hb, hg, hn, hm', hs, ht⟩
  · simp at h
  simp only [Value.slice.injEq, Option.some.injEq, Addr.mk.injEq, and_true, true_and] at h
  obtain ⟨rfl, rfl⟩ := h
  rw [Nat.mul_one] at hl hs
  by_cases h0 : n = 0
  · subst h0
    have : cs = [] := List.eq_nil_of_length_eq_zero hl
    subst this
    refine ⟨w, run_copy_none w t t ty e _ _ _ _ _ _ hu hsz (by simp), ⟨rfl, .inr ⟨g, 0, cur, rfl, hb, hg, Nat.le_refl _, hm', by simpa using hs, by simp⟩⟩, World.grownBy.refl _ _⟩
  · have hne : cs ≠ [] := by intro e; subst e; simp at hl; omega
    obtain ⟨c0, hc0⟩ : ∃ c, cs[0]? = some c := by cases cs with | nil => exact absurd rfl hne | cons c _ => exact ⟨c, rfl⟩
    obtain ⟨b, off, rfl, _⟩ := hcell 0 c0 hc0
    have hrun := run_copy_row (P := P) w t t ty e g 0 n n ⟨b, off, none⟩ n cap cur e cs hu hsz hg (by rw [hl]; exact (Nat.min_self n).symm) (fun j u hj => by
      obtain ⟨b', off', e', hc'⟩ := hcell j u hj
      simp only [Option.some.injEq, Addr.mk.injEq, and_true] at e'
      obtain ⟨rfl, rfl⟩ := e'
      rw [add_plain]; exact hc') (by omega) h1
    rw [hl] at hrun
    refine ⟨_, hrun, ⟨by omega, .inr ⟨g, n, _, rfl, hb, setRow_heap w g cur _ e _ hg, Nat.le_refl _, hm', ?_, ?_⟩⟩, ⟨rfl, rfl, rfl, by simp [World.setRow], fun k _ hk => setRow_other w g k _ (fun e => hk (by simp [e]))⟩⟩
    · simp; omega
    · simp [← hl]

/-- What is the call's own has grown, or has been written: all that was there at first is as it was. -/
theorem Ext.grown {a w w' : World} {row : Option Nat} (h : Ext a w) (hg : w.grownBy w' row) (hr : ∀ k, row = some k → a.heap.size ≤ k) : Ext a w' := Below.grown h hg h.size hr

theorem ints_of_owns {w : World} {base e n : Nat} {v : Value} {xs : List Int} (h : w.ownsRow base e 1 v n (xs.map I)) : Ints w v xs := by
  have hl : xs.length = n := by simpa using h.1
  subst hl
  exact Row.of_owns h
theorem writes_of_owns {w : World} {base e n : Nat} {v : Value} {l : List (Int × Int)} (h : w.ownsRow base e 2 v n (cells2 l)) : Writes w v l := by
  have hl : l.length = n := by have := h.1; rw [length_cells2] at this; omega
  subst hl
  exact Row.of_owns h
theorem Ext.alloc {a w : World} (h : Ext a w) (o : Obj) : Ext a (w.alloc o) := Below.alloc h h.size o
theorem Ext.setCell {a w : World} (h : Ext a w) {p : Addr} (hp : a.heap.size ≤ p.block) (u : Value) : Ext a (w.setCell p u) := Below.setCell h hp u

/-- append(v, u...), v the call's own (or nil), u whatever. -/
theorem run_append_row {P : Program} (w : World) (base : Nat) (t ty e : TypeId) (i : TypeInfo) (z : Value) (size bytes : Nat) (ht : P.underlying t = some (.slice e)) (hi : P.info? e = some i) (hz : i.zero = some z)
    (hsize : i.size = size) (hby : i.bytes = bytes) (hzs : z.cells.size = size) (hsz : 0 < size)
    (v : Value) (n : Nat) (xs : List Value) (hown : w.ownsRow base e size v n xs) (u : Value) (m : Nat) (news : List Value) (hu : Row w size u m news) (h1 : ∀ u ∈ news, u.oneCell' = true)
    (hbytes : (n + m) * bytes ≤ 140737488355328) (hpos : 0 < bytes) (hbase : base ≤ w.heap.size) :
    ∃ v' w', (Builtin.append_ #[t, t] ty #[v, u]).run P w = .ok v' w' ∧ w'.ownsRow base e size v' (n + m) (xs ++ news) ∧ w.grownBy w' v.ownBlock := by
  obtain ⟨hl, ao, cap, rfl, hc, hm, h0, hcell⟩ := hu
  have h63 : n + m ≤ maxLen := by
    have : n + m ≤ (n + m) * bytes := Nat.le_mul_of_pos_right _ hpos
    unfold maxLen
    omega
  cases ao with
  | none =>
    have hcap := h0 rfl
    subst hcap
    have hm0 : m = 0 := by omega
    subst hm0
    have : news = [] := List.eq_nil_of_length_eq_zero (by simpa using hl)
    subst this
    exact ⟨v, w, run_append_owned_none w base t ty e i size ht hi v n xs hown, by simpa using hown, World.grownBy.refl _ _⟩
  | some ad =>
    obtain ⟨v', w', h1', h2', h3', _⟩ := run_append_own w base t ty e i z size bytes ht hi hz hsize hby hzs hsz v n xs hown ad m cap news hl (fun j u hj => by
      obtain ⟨b, off, e', hc'⟩ := hcell j u hj
      simp only [Option.some.injEq] at e'
      subst e'
      rw [add_plain]; exact hc') h1 h63 hbytes hbase
    exact ⟨v', w', h1', h2', h3'⟩

theorem wpList_append_row {P : Program} (w : World) {ops : Array Oper} {rest : List Oper} {o : Oper} {a : Act} {Q : Exit → Act → World → Prop} (hgd : o.guard = none) (s x : Operand) (t : TypeId)
    (ho : o.op = .call { callee := .builtin .append, args := #[s, x], argTypes := #[t, t] })
    (base : Nat) (e : TypeId) (i : TypeInfo) (z : Value) (size bytes : Nat) (ht : P.underlying t = some (.slice e)) (hi : P.info? e = some i) (hz : i.zero = some z)
    (hsize : i.size = size) (hby : i.bytes = bytes) (hzs : z.cells.size = size) (hsz : 0 < size)
    (v : Value) (n : Nat) (xs : List Value) (hs : a.eval s = v) (hown : w.ownsRow base e size v n xs) (u : Value) (hx : a.eval x = u) (m : Nat) (news : List Value) (hu : Row w size u m news) (h1 : ∀ u ∈ news, u.oneCell' = true)
    (hbytes : (n + m) * bytes ≤ 140737488355328) (hpos : 0 < bytes) (hbase : base ≤ w.heap.size)
    (h : ∀ v' w', w'.ownsRow base e size v' (n + m) (xs ++ news) → w.grownBy w' v.ownBlock → wpList P ops Q rest (a.put o.dst v') w') : wpList P ops Q (o :: rest) a w := by
  refine wpList_plain hgd fun K hK => ?_
  obtain ⟨v', w', hrun, h2, h3⟩ := run_append_row (P := P) w base t o.type e i z size bytes ht hi hz hsize hby hzs hsz v n xs hown u m news hu h1 hbytes hpos hbase
  unfold Oper.wp
  simp [execOp, ho, resolve, invoke, builtin, hs, hx, hrun, Result.andThen]
  exact hK _ _ (h v' w' h2 h3)

theorem writes_nil (w : World) : Writes w (.slice none 0 0) [] := writes_of_owns (World.ownsRow_nil w 0 0 2)
theorem ints_nil (w : World) : Ints w (.slice none 0 0) [] := ints_of_owns (World.ownsRow_nil w 0 0 1)
/-- The first k elements. -/
theorem Row.take {w : World} {size n cap : Nat} {ao : Option Addr} {cs : List Value} (h : Row w size (.slice ao n cap) n cs) (k : Nat) (hk : k ≤ n) : Row w size (.slice ao k cap) k (cs.take (k * size)) := by
  obtain ⟨h1, ao', cap', h2, h3, h4, h0, h5⟩ := h
  simp only [Value.slice.injEq, true_and] at h2
  obtain ⟨rfl, rfl⟩ := h2
  refine ⟨?_, ao, cap, rfl, by omega, h4, h0, fun j u hj => ?_⟩
  · rw [List.length_take, h1]
    exact Nat.min_eq_left (Nat.mul_le_mul_right _ hk)
  · rw [List.getElem?_take] at hj
    split at hj
    · exact h5 j u hj
    · cases hj
theorem cells2_take (l : List (Int × Int)) (k : Nat) : (cells2 l).take (k * 2) = cells2 (l.take k) := by
  induction l generalizing k with
  | nil => simp [cells2]
  | cons p l ih =>
    cases k with
    | zero => rfl
    | succ k =>
      rw [show (k + 1) * 2 = k * 2 + 2 by omega]
      show I p.1 :: I p.2 :: (cells2 l).take (k * 2) = _
      rw [ih]
      rfl
theorem Writes.take {w : World} {cap : Nat} {ao : Option Addr} {l : List (Int × Int)} (h : Writes w (.slice ao l.length cap) l) (k : Nat) (hk : k ≤ l.length) : Writes w (.slice ao k cap) (l.take k) := by
  have := Row.take h k hk
  rw [cells2_take] at this
  unfold Writes
  rw [List.length_take, Nat.min_eq_left hk]
  exact this

/-- A slice that is written out. -/
theorem writes_lit {w : World} (e : TypeId) (l : List (Int × Int)) (cs : Array Value) (n : Nat) (hc : cs.toList = cells2 l) (hn : l.length = n) (hm : n ≤ maxLen) : Writes (w.alloc (.cells cs e)) (.slice (some ⟨w.heap.size, 0, none⟩) n n) l := by
  subst hn
  have := World.ownsRow_lit (base := 0) (e := e) (size := 2) w cs l.length (Nat.zero_le _) hm (by rw [← Array.length_toList, hc, length_cells2])
  rw [hc] at this
  exact writes_of_owns this
theorem ints_lit {w : World} (e : TypeId) (l : List Int) (cs : Array Value) (n : Nat) (hc : cs.toList = l.map I) (hn : l.length = n) (hm : n ≤ maxLen) : Ints (w.alloc (.cells cs e)) (.slice (some ⟨w.heap.size, 0, none⟩) n n) l := by
  subst hn
  have := World.ownsRow_lit (base := 0) (e := e) (size := 1) w cs l.length (Nat.zero_le _) hm (by rw [← Array.length_toList, hc]; simp)
  rw [hc] at this
  exact ints_of_owns this

theorem Ext.grownBy {w w' : World} (h : Ext w w') (row : Option Nat) : w.grownBy w' row := ⟨h.os, h.tape, h.output, h.size, fun k hk _ => h.block k hk⟩
theorem owns_ext {w w' : World} {base e size n : Nat} {v : Value} {xs : List Value} (h : w.ownsRow base e size v n xs) (he : Ext w w') : w'.ownsRow base e size v n xs :=
  h.kept (he.grownBy none) (by cases hv : v.ownBlock with | none => exact .inl rfl | some k => exact .inr (by simp))
/-- A cell that lies in another row stays. -/
theorem grown_cell {w w' : World} {row : Option Nat} (hg : w.grownBy w' row) {b o : Nat} {v : Value} (h : w.cell? ⟨b, o, none⟩ = some v) (hne : row ≠ some b) : w'.cell? ⟨b, o, none⟩ = some v :=
  hg.cell h (fun e => hne e.symm)

theorem grown_trans {a b c : World} {row : Option Nat} (h : a.grownBy b row) (k : b.grownBy c row) : a.grownBy c row :=
  ⟨k.os.trans h.os, k.tape.trans h.tape, k.output.trans h.output, Nat.le_trans h.size k.size, fun i hi hne => (k.block i (Nat.lt_of_lt_of_le hi h.size) hne).trans (h.block i hi hne)⟩
theorem grown_drew {a b : World} {row : Option Nat} (h : a.grownBy b row) : a.grownBy b.drew row := ⟨h.os, h.tape, h.output, h.size, h.block⟩

/-- A contract of a call that leaves the world alone, met at a call. -/
theorem Calls.same {P : Program} {f : FuncId} {args : Array Value} {w : World} {v : Value} {Q : Ending → World → Prop} (h : Calls P f args w fun e w' => e = .returned v ∧ w' = w) (k : Q (.returned v) w) : Calls P f args w Q :=
  h.mono fun e w' ⟨he, hw⟩ => by rw [he, hw]; exact k
/-- .. of one that only draws. -/
theorem Calls.drawn {P : Program} {f : FuncId} {args : Array Value} {w : World} {v : Value} {Q : Ending → World → Prop} (h : Calls P f args w fun e w' => e = .returned v ∧ ∃ n, w' = w.drewN n) (k : ∀ n, Q (.returned v) (w.drewN n)) : Calls P f args w Q :=
  h.mono fun e w' ⟨he, n, hw⟩ => by rw [he, hw]; exact k n

/-- What a call gives: it returns, nothing that was there has turned, and T is known of the result. -/
def Gives (P : Program) (f : FuncId) (args : Array Value) (w : World) (T : Value → World → Prop) : Prop := Calls P f args w fun e w' => ∃ r, e = .returned r ∧ Ext w w' ∧ T r w'
theorem Gives.to {P : Program} {f : FuncId} {args : Array Value} {w : World} {T : Value → World → Prop} {Q : Ending → World → Prop} (h : Gives P f args w T) (k : ∀ r w', Ext w w' → T r w' → Q (.returned r) w') : Calls P f args w Q :=
  Calls.mono h fun e w' ⟨r, he, hx, ht⟩ => by rw [he]; exact k r w' hx ht
theorem Gives.mono {P : Program} {f : FuncId} {args : Array Value} {w : World} {T T' : Value → World → Prop} (h : Gives P f args w T) (k : ∀ r w', Ext w w' → T r w' → T' r w') : Gives P f args w T' :=
  Calls.mono h fun _ w' ⟨r, he, hx, ht⟩ => ⟨r, he, hx, k r w' hx ht⟩
theorem gives_same {P : Program} {f : FuncId} {args : Array Value} {w : World} {v : Value} (h : Calls P f args w fun e w' => e = .returned v ∧ w' = w) : Gives P f args w (fun r _ => r = v) :=
  Calls.mono h fun _ w' ⟨he, hw⟩ => ⟨v, he, by rw [hw]; exact Ext.refl _, rfl⟩
theorem gives_drawn {P : Program} {f : FuncId} {args : Array Value} {w : World} {v : Value} (h : Calls P f args w fun e w' => e = .returned v ∧ ∃ n, w' = w.drewN n) : Gives P f args w (fun r _ => r = v) :=
  Calls.mono h fun _ w' ⟨he, n, hw⟩ => ⟨v, he, by rw [hw]; exact Ext.of_drewN _ _, rfl⟩

/-- A call among the operations of a region. -/
theorem makes_gives {P : Program} {o : Oper} {a : Act} {f : FuncId} {args : Array Value} {w : World} {T : Value → World → Prop} (hrun : (execOp a.eval o).run P w = .ok (.enter f args) w) (h : Gives P f args w T) : makes P o a w T := makes_call hrun h
/-- .. of a builtin that makes memory, or an allocation. -/
theorem monoInts (xs : List Int) : ∀ v, MonoP (fun w => Ints w v xs) := fun _ _ _ he h => Ints.ext h he
theorem monoWrites (l : List (Int × Int)) : ∀ v, MonoP (fun w => Writes w v l) := fun _ _ _ he h => Writes.ext h he
theorem monoOwns (base e size n : Nat) (cs : List Value) : ∀ v, MonoP (fun w => w.ownsRow base e size v n cs) := fun _ _ _ he h => owns_ext h he
/-- A pointer to a cell that holds x. -/
def At (x : Value) (v : Value) (w : World) : Prop := ∃ p, v = .pointer (some p) ∧ w.cell? p = some x
theorem monoAt (x : Value) : ∀ v, MonoP (At x v) := fun _ _ _ he ⟨p, h1, h2⟩ => ⟨p, h1, he.cell h2⟩
end Go.Mk

namespace Go.Mk
open Go Go.RowKit Go.ChangeShapes Go.WideShapes

theorem pick_list {Y : Type} (n : Nat) {Q : Nat → Y → Prop} (h : ∀ i, i < n → ∃ y, Q i y) : ∃ l : List Y, l.length = n ∧ ∀ i y, l[i]? = some y → Q i y := by
  induction n with
  | zero => exact ⟨[], rfl, fun i y hy => by simp at hy⟩
  | succ n ih =>
    obtain ⟨l, hl, hq⟩ := ih (fun i hi => h i (by omega))
    obtain ⟨y, hy⟩ := h n (by omega)
    refine ⟨l ++ [y], by simp [hl], fun i z hz => ?_⟩
    by_cases hi : i < l.length
    · rw [List.getElem?_append_left hi] at hz
      exact hq i z hz
    · rw [List.getElem?_append_right (by omega)] at hz
      have : i - l.length = 0 := by
        have := (List.getElem?_eq_some_iff.1 hz).1
        simp at this
        omega
      rw [this] at hz
      simp at hz
      subst hz
      rw [show i = n by omega]
      exact hy

theorem flatten_at {Y : Type} (sz : Nat) (hsz : 0 < sz) : ∀ (css : List (List Y)), (∀ c ∈ css, c.length = sz) → ∀ j, css.flatten[j]? = (css[j / sz]?).bind (fun c => c[j % sz]?)
  | [], _, j => by simp
  | c :: css, h, j => by
    have hc : c.length = sz := h c (by simp)
    rw [List.flatten_cons]
    by_cases hj : j < sz
    · rw [List.getElem?_append_left (by omega), Nat.div_eq_of_lt hj, Nat.mod_eq_of_lt hj]
      rfl
    · rw [List.getElem?_append_right (by omega), flatten_at sz hsz css (fun c hc => h c (by simp [hc])), hc]
      obtain ⟨k, rfl⟩ : ∃ k, j = k + sz := ⟨j - sz, by omega⟩
      rw [Nat.add_sub_cancel, Nat.add_div_right _ hsz, Nat.add_mod_right]
      rfl
theorem length_flatten_sz {Y : Type} (sz : Nat) : ∀ (css : List (List Y)), (∀ c ∈ css, c.length = sz) → css.flatten.length = css.length * sz
  | [], _ => by simp
  | c :: css, h => by
    rw [List.flatten_cons, List.length_append, length_flatten_sz sz css (fun c hc => h c (by simp [hc])), h c (by simp), List.length_cons, Nat.add_mul]
    omega

section
variable {P : Program} {H : Type} {enc : TypeId × Value → H} {W : World} {X : Type}

theorem cell_of_cells {w : World} {base : Nat} {a : Addr} {n : Nat} {cs : List Value} (h : w.cells? base a n = some cs) : cs.length = n ∧ ∀ i u, cs[i]? = some u → w.cell? (a.add i) = some u := by
  obtain ⟨_, h2, h3⟩ := World.cells?_some h
  refine ⟨h2, fun i u hu => ?_⟩
  have hi : i < n := by have := (List.getElem?_eq_some_iff.1 hu).1; omega
  rw [h3 i hi]
  exact hu

theorem add_add (a : Addr) (i j : Nat) (h : a.spot = none) : (a.add i).add j = ⟨a.block, a.off + (i + j), none⟩ := by
  obtain ⟨b, off, spot⟩ := a
  simp only at h
  subst h
  rw [add_plain, add_plain, Nat.add_assoc]

/-- A slice whose elements read one by one. -/
theorem read_slice {t e : TypeId} {sz : Nat} (hsz : 0 < sz) {v : Value} {d : DataW H} {p : List MemPlace} (R : List Value → X → Prop) (ht : P.underlying t = some (.slice e)) (hc : P.cellsOf e = sz)
    (hR : ∀ fuel cs z, DataW.trod enc P W 0 (fun _ => true) true fuel e cs = some z → cs.length = sz → ∃ x, R cs x)
    {cs0 : List Value} {fuel : Nat} (hcs0 : cs0 = [v]) (hf : DataW.trod enc P W 0 (fun _ => true) true fuel t cs0 = some (d, p)) :
    ∃ (xs : List X) (css : List (List Value)), Row W sz v xs.length css.flatten ∧ css.length = xs.length ∧ (∀ (i : Nat) c x, css[i]? = some c → xs[i]? = some x → c.length = sz ∧ R c x) ∧
      (xs = [] ∨ ∃ elems spare, d = .slice elems spare ∧ elems.length = xs.length) := by
  subst hcs0
  rcases DataW.trod_slice ht hf with ⟨hcs, hx⟩ | ⟨a, len, cap, elems, rest, n, _, hcs, hx, _, hl, hm, hlen, hel, _, _⟩
  · simp at hcs
    subst hcs
    exact ⟨[], [], Row.of_owns (World.ownsRow_nil W 0 0 sz), rfl, fun i c x hi => by simp at hi, .inl rfl⟩
  · simp at hcs
    subst hcs
    simp only [Prod.mk.injEq] at hx
    obtain ⟨rfl, rfl⟩ := hx
    rw [hc] at hel
    obtain ⟨l, hll, hq⟩ := pick_list (Y := List Value × X) len (Q := fun i y => W.cells? 0 (a.add (i * sz)) sz = some y.1 ∧ R y.1 y.2) (fun i hi => by
      have h1 := hel i hi
      obtain ⟨z, hz⟩ : ∃ z, elems[i]? = some z := ⟨elems[i]'(by omega), by simp⟩
      rw [hz, Option.bind_eq_some_iff] at h1
      obtain ⟨cs, hcs, hz'⟩ := h1
      obtain ⟨x, hx⟩ := hR _ _ _ hz' (cell_of_cells hcs).1
      exact ⟨(cs, x), hcs, hx⟩)
    have hall : ∀ c ∈ l.map (·.1), c.length = sz := fun c hcm => by
      obtain ⟨y, hy, rfl⟩ := List.mem_map.1 hcm
      obtain ⟨i, hi⟩ := List.mem_iff_getElem?.1 hy
      exact (cell_of_cells (hq i y hi).1).1
    refine ⟨l.map (·.2), l.map (·.1), ⟨?_, some a, cap, by simp [hll], by simp [hll]; exact hl, hm, fun h => (by cases h), fun j u hj => ?_⟩, by simp, fun i c x hi hx => ?_, .inr ⟨_, _, rfl, by simp [hll, hlen]⟩⟩
    · rw [length_flatten_sz sz _ hall]; simp
    · rw [flatten_at sz hsz _ hall, Option.bind_eq_some_iff] at hj
      obtain ⟨c, hci, hcj⟩ := hj
      rw [List.getElem?_map] at hci
      cases hy : l[j / sz]? with
      | none => rw [hy] at hci; cases hci
      | some y =>
        rw [hy] at hci
        simp at hci
        subst hci
        have hcell := (cell_of_cells (hq _ _ hy).1).2 _ _ hcj
        have hspot : a.spot = none := by
          by_cases h0 : j / sz * sz = 0
          · rw [h0] at hcell
            by_cases h1 : j % sz = 0
            · rw [h1] at hcell
              have := World.cell?_spot hcell
              simpa [Addr.add] using this
            · have h2 := (cell_of_cells (hq _ _ hy).1).2 0
              have h3 : 0 < y.1.length := by have := (List.getElem?_eq_some_iff.1 hcj).1; omega
              have h4 := h2 _ (List.getElem?_eq_getElem h3)
              rw [h0] at h4
              have := World.cell?_spot h4
              simpa [Addr.add] using this
          · -- the first element's first cell
            have hl0 : 0 < l.length := Nat.lt_of_le_of_lt (Nat.zero_le _) (List.getElem?_eq_some_iff.1 hy).1
            have h5 := hq 0 _ (List.getElem?_eq_getElem hl0)
            have h6 := cell_of_cells h5.1
            have h7 := h6.2 0 _ (List.getElem?_eq_getElem (by omega))
            have := World.cell?_spot h7
            simpa [Addr.add] using this
        rw [add_add a _ _ hspot, Nat.div_add_mod' j sz] at hcell
        obtain ⟨b, off, spot⟩ := a
        simp only at hspot
        subst hspot
        exact ⟨b, off, rfl, hcell⟩
    · rw [List.getElem?_map] at hi hx
      cases hy : l[i]? with
      | none => rw [hy] at hi; cases hi
      | some y =>
        rw [hy] at hi hx
        simp at hi hx
        subst hi hx
        exact ⟨(cell_of_cells (hq _ _ hy).1).1, (hq _ _ hy).2⟩

/-- Where an element's cells are a function of it. -/
theorem flat_of {f : X → List Value} : ∀ {css : List (List Value)} {xs : List X}, css.length = xs.length → (∀ (i : Nat) c x, css[i]? = some c → xs[i]? = some x → c = f x) → css.flatten = xs.flatMap f
  | [], [], _, _ => rfl
  | [], _ :: _, h, _ => by cases h
  | _ :: _, [], h, _ => by cases h
  | c :: css, x :: xs, h, hq => by
    rw [List.flatten_cons, List.flatMap_cons, hq 0 c x rfl rfl, flat_of (by simpa using h) (fun i c x hc hx => hq (i + 1) c x hc hx)]

theorem flatMap_one (xs : List Int) : xs.flatMap (fun x => [I x]) = xs.map I := by
  induction xs with
  | nil => rfl
  | cons x xs ih => rw [List.flatMap_cons, ih]; rfl

theorem read_ints {t e : TypeId} {v : Value} {d : DataW H} {p : List MemPlace} (ht : P.underlying t = some (.slice e)) (he : P.underlying e = some (.int .i64)) (hc : P.cellsOf e = 1)
    {b0 : Nat} (hv : Value.okWide P W .any b0 t v) (h : DataW.Trod enc P W 0 (fun _ => true) true t v d p) :
    ∃ xs : List Int, Ints W v xs ∧ (xs = [] ∨ ∃ elems spare, d = .slice elems spare ∧ elems.length = xs.length) := by
  obtain ⟨a0, len, cap, rfl⟩ := okWide_slice ht hv
  obtain ⟨fuel, hf⟩ := h
  obtain ⟨xs, css, hr, hl, hq, hs⟩ := read_slice (X := Int) (by decide) (fun cs x => cs = [I x]) ht hc (fun fuel cs z hz _ => by
    obtain ⟨n, rfl, _⟩ := DataW.trod_int he hz
    exact ⟨n, rfl⟩) rfl hf
  refine ⟨xs, ?_, hs⟩
  rw [flat_of (f := fun x => [I x]) hl (fun i c x hc hx => (hq i c x hc hx).2)] at hr
  rw [flatMap_one] at hr
  exact hr

theorem trod_pair {e : TypeId} {f0 f1 : Field} {fuel : Nat} {cs : List Value} {z : DataW H × List MemPlace} (he : P.underlying e = some (.struct #[f0, f1])) (hc : P.cellsOf e = 2)
    (h0 : P.underlying f0.type = some (.int .i64)) (h1 : P.underlying f1.type = some (.int .i64)) (o0 : f0.offset = 0) (o1 : f1.offset = 1) (c0 : P.cellsOf f0.type = 1) (c1 : P.cellsOf f1.type = 1)
    (hz : DataW.trod enc P W 0 (fun _ => true) true fuel e cs = some z) : ∃ x : Int × Int, cs = [I x.1, I x.2] := by
  obtain ⟨y0, y1, m, hx, hcl, t0, t1⟩ := trod_struct2 he hz
  rw [hc] at hcl
  obtain ⟨u0, u1, rfl⟩ : ∃ u0 u1, cs = [u0, u1] := by
    match cs, hcl with
    | [u0, u1], _ => exact ⟨u0, u1, rfl⟩
  rw [o0, c0] at t0
  rw [o1, c1] at t1
  obtain ⟨x, e0, _⟩ := DataW.trod_int h0 t0
  obtain ⟨y, e1, _⟩ := DataW.trod_int h1 t1
  simp at e0 e1
  exact ⟨(x, y), by rw [e0, e1]⟩

theorem read_writes {t e : TypeId} {f0 f1 : Field} {v : Value} {d : DataW H} {p : List MemPlace} (ht : P.underlying t = some (.slice e)) (he : P.underlying e = some (.struct #[f0, f1])) (hc : P.cellsOf e = 2)
    (h0 : P.underlying f0.type = some (.int .i64)) (h1 : P.underlying f1.type = some (.int .i64)) (o0 : f0.offset = 0) (o1 : f1.offset = 1) (c0 : P.cellsOf f0.type = 1) (c1 : P.cellsOf f1.type = 1)
    {b0 : Nat} (hv : Value.okWide P W .any b0 t v) (h : DataW.Trod enc P W 0 (fun _ => true) true t v d p) :
    ∃ l : List (Int × Int), Writes W v l ∧ (l = [] ∨ ∃ elems spare, d = .slice elems spare ∧ elems.length = l.length) := by
  obtain ⟨a0, len, cap, rfl⟩ := okWide_slice ht hv
  obtain ⟨fuel, hf⟩ := h
  obtain ⟨xs, css, hr, hl, hq, hs⟩ := read_slice (X := Int × Int) (by decide) (fun cs x => cs = [I x.1, I x.2]) ht hc (fun fuel cs z hz _ => trod_pair he hc h0 h1 o0 o1 c0 c1 hz) rfl hf
  refine ⟨xs, ?_, hs⟩
  rw [flat_of (f := fun x => [I x.1, I x.2]) hl (fun i c x hc hx => (hq i c x hc hx).2)] at hr
  exact hr

/-- A pair by value. -/
theorem read_pair {e : TypeId} {f0 f1 : Field} {v : Value} {d : DataW H} {p : List MemPlace} (he : P.underlying e = some (.struct #[f0, f1])) (hc : P.cellsOf e = 2)
    (h0 : P.underlying f0.type = some (.int .i64)) (h1 : P.underlying f1.type = some (.int .i64)) (o0 : f0.offset = 0) (o1 : f1.offset = 1) (c0 : P.cellsOf f0.type = 1) (c1 : P.cellsOf f1.type = 1)
    {b0 : Nat} (hv : Value.okWide P W .any b0 e v) (h : DataW.Trod enc P W 0 (fun _ => true) true e v d p) : ∃ x : Int × Int, v = .agg #[I x.1, I x.2] := by
  obtain ⟨cs, rfl, hsz⟩ := okWide_struct he hv
  obtain ⟨fuel, hf⟩ := h
  obtain ⟨x, hx⟩ := trod_pair he hc h0 h1 o0 o1 c0 c1 hf
  refine ⟨x, ?_⟩
  simp only [Value.cells] at hx
  rw [show cs = #[I x.1, I x.2] from by cases cs; simp_all]

end
end Go.Mk

namespace Go.Mk
open Go Go.RowKit

structure Cl where
  kind : Int
  name : Int
  other : Int
  n : Int
structure Rp where
  err : Int
  n : Int
structure Rq where
  client : Int
  token : Int
  call : Cl
abbrev Cl.val (c : Cl) : Value := .agg #[I c.kind, I c.name, I c.other, I c.n]
abbrev Rp.val (r : Rp) : Value := .agg #[I r.err, I r.n]

/-- What is wrong with a call. -/
def wrongCl (c : Cl) : Int :=
  if ¬ (1 ≤ c.kind ∧ c.kind ≤ 6) then 1
  else if c.kind = 5 ∧ c.name ≠ 0 ∨ c.kind ≠ 5 ∧ ¬ (1 ≤ c.name ∧ c.name ≤ 255) then 7
  else if c.kind = 6 ∧ ¬ (1 ≤ c.other ∧ c.other ≤ 255) ∨ c.kind ≠ 6 ∧ c.other ≠ 0 then 7
  else if (c.kind = 1 ∨ c.kind = 4) ∧ ¬ (-1073741824 ≤ c.n ∧ c.n ≤ 1073741824) ∨ ¬ (c.kind = 1 ∨ c.kind = 4) ∧ c.n ≠ 0 then 3
  else 0

/-- Where a name is; as many as there are, if it is not there. -/
def at1 (l : List (Int × Int)) (name : Int) : Nat := l.findIdx (fun p => p.1 == name)
/-- The number at a place. -/
def num (l : List (Int × Int)) (i : Nat) : Int := (l.getD i (0, 0)).2
def put1 (l : List (Int × Int)) (i : Nat) (n : Int) : List (Int × Int) := l.set i ((l.getD i (0, 0)).1, n)

def doCl (l : List (Int × Int)) (c : Cl) : List (Int × Int) × Rp :=
  if c.kind = 5 then (l, ⟨0, l.length⟩)
  else if c.kind = 1 then
    if at1 l c.name < l.length then (put1 l (at1 l c.name) c.n, ⟨0, num l (at1 l c.name)⟩)
    else if 5 ≤ l.length then (l, ⟨9, 0⟩) else (l ++ [(c.name, c.n)], ⟨0, 0⟩)
  else if ¬ at1 l c.name < l.length then (l, ⟨6, 0⟩)
  else if c.kind = 2 then (l, ⟨0, num l (at1 l c.name)⟩)
  else if c.kind = 3 then ((l.set (at1 l c.name) (l.getD (l.length - 1) (0, 0))).take (l.length - 1), ⟨0, num l (at1 l c.name)⟩)
  else if c.kind = 4 then
    if ¬ (-1073741824 ≤ num l (at1 l c.name) + c.n ∧ num l (at1 l c.name) + c.n ≤ 1073741824) then (l, ⟨3, 0⟩)
    else (put1 l (at1 l c.name) (num l (at1 l c.name) + c.n), ⟨0, num l (at1 l c.name) + c.n⟩)
  else if ¬ at1 l c.other < l.length then (l, ⟨6, 0⟩)
  else (put1 (put1 l (at1 l c.name) (num l (at1 l c.other))) (at1 l c.other) (num l (at1 l c.name)), ⟨0, num l (at1 l c.other)⟩)

/-- Names that are unlike, no more than may be, and numbers that may be. -/
def Okn (l : List (Int × Int)) : Prop := l.length ≤ 5 ∧ (∀ p ∈ l, 1 ≤ p.1 ∧ p.1 ≤ 255 ∧ -1073741824 ≤ p.2 ∧ p.2 ≤ 1073741824) ∧ (l.map Prod.fst).Nodup

/-- No more names than may be, and numbers that may be; names need not be unlike. -/
def Okw (l : List (Int × Int)) : Prop := l.length ≤ 5 ∧ ∀ p ∈ l, 0 ≤ p.1 ∧ p.1 ≤ 255 ∧ -1073741824 ≤ p.2 ∧ p.2 ≤ 1073741824
theorem Okn.w {l : List (Int × Int)} (h : Okn l) : Okw l := ⟨h.1, fun p hp => by have := h.2.1 p hp; omega⟩
theorem Okw.len {l : List (Int × Int)} (h : Okw l) : l.length ≤ 5 := h.1
theorem Okw.at {l : List (Int × Int)} (h : Okw l) {i : Nat} (hi : i < l.length) : 0 ≤ (l.getD i (0, 0)).1 ∧ (l.getD i (0, 0)).1 ≤ 255 ∧ -1073741824 ≤ (l.getD i (0, 0)).2 ∧ (l.getD i (0, 0)).2 ≤ 1073741824 := by
  rw [List.getD_eq_getElem?_getD, List.getElem?_eq_getElem hi]
  exact h.2 _ (List.getElem_mem hi)

theorem at1_le (l : List (Int × Int)) (name : Int) : at1 l name ≤ l.length := List.findIdx_le_length
theorem at1_hit {l : List (Int × Int)} {name : Int} (h : at1 l name < l.length) : (l.getD (at1 l name) (0, 0)).1 = name := by
  have := List.findIdx_getElem (w := h)
  rw [List.getD_eq_getElem?_getD, List.getElem?_eq_getElem h]
  exact eq_of_beq this
/-- The search, place by place. -/
theorem at1_of {l : List (Int × Int)} {name : Int} {k : Nat} (hk : k < l.length) (h : (l.getD k (0, 0)).1 = name) (hb : ∀ j, j < k → (l.getD j (0, 0)).1 ≠ name) : at1 l name = k := by
  unfold at1
  rw [List.findIdx_eq hk]
  refine ⟨by simpa [List.getD_eq_getElem?_getD, hk] using h, fun j hj => ?_⟩
  have := hb j hj
  simpa [List.getD_eq_getElem?_getD, Nat.lt_trans hj hk] using this
theorem at1_none {l : List (Int × Int)} {name : Int} (hb : ∀ j, j < l.length → (l.getD j (0, 0)).1 ≠ name) : at1 l name = l.length := by
  unfold at1
  rw [List.findIdx_eq_length]
  intro p hp
  obtain ⟨j, hj, rfl⟩ := List.mem_iff_getElem.1 hp
  have := hb j hj
  simpa [List.getD_eq_getElem?_getD, hj] using this
theorem at1_before {l : List (Int × Int)} {name : Int} {j : Nat} (h : j < at1 l name) : (l.getD j (0, 0)).1 ≠ name := by
  have hl : j < l.length := Nat.lt_of_lt_of_le h (at1_le l name)
  have := List.not_of_lt_findIdx h
  simpa [List.getD_eq_getElem?_getD, hl] using this

theorem Okn.len {l : List (Int × Int)} (h : Okn l) : l.length ≤ 5 := h.1
theorem Okn.at {l : List (Int × Int)} (h : Okn l) {i : Nat} (hi : i < l.length) : 1 ≤ (l.getD i (0, 0)).1 ∧ (l.getD i (0, 0)).1 ≤ 255 ∧ -1073741824 ≤ (l.getD i (0, 0)).2 ∧ (l.getD i (0, 0)).2 ≤ 1073741824 := by
  rw [List.getD_eq_getElem?_getD, List.getElem?_eq_getElem hi]
  exact h.2.1 _ (List.getElem_mem hi)
theorem Okn.uni {l : List (Int × Int)} (h : Okn l) {i j : Nat} (hi : i < l.length) (hj : j < l.length) (e : (l.getD i (0, 0)).1 = (l.getD j (0, 0)).1) : i = j := by
  have h2 := h.2.2
  rw [List.nodup_iff_pairwise_ne, List.pairwise_iff_getElem] at h2
  rw [List.getD_eq_getElem?_getD, List.getElem?_eq_getElem hi, List.getD_eq_getElem?_getD, List.getElem?_eq_getElem hj] at e
  rcases Nat.lt_trichotomy i j with hlt | heq | hgt
  · exact absurd (by rw [List.getElem_map, List.getElem_map]; exact e) (h2 i j (by simpa using hi) (by simpa using hj) hlt)
  · exact heq
  · exact absurd (by rw [List.getElem_map, List.getElem_map]; exact e.symm) (h2 j i (by simpa using hj) (by simpa using hi) hgt)
theorem okn_of {l : List (Int × Int)} (h1 : l.length ≤ 5) (h2 : ∀ i, i < l.length → 1 ≤ (l.getD i (0, 0)).1 ∧ (l.getD i (0, 0)).1 ≤ 255 ∧ -1073741824 ≤ (l.getD i (0, 0)).2 ∧ (l.getD i (0, 0)).2 ≤ 1073741824)
    (h3 : ∀ i j, i < j → j < l.length → (l.getD i (0, 0)).1 ≠ (l.getD j (0, 0)).1) : Okn l := by
  refine ⟨h1, fun p hp => ?_, ?_⟩
  · obtain ⟨i, hi, rfl⟩ := List.mem_iff_getElem.1 hp
    have := h2 i hi
    rwa [List.getD_eq_getElem?_getD, List.getElem?_eq_getElem hi] at this
  · rw [List.nodup_iff_pairwise_ne, List.pairwise_iff_getElem]
    intro i j hi hj hij
    have := h3 i j hij (by simpa using hj)
    rw [List.length_map] at hi hj
    rw [List.getD_eq_getElem?_getD, List.getElem?_eq_getElem hi, List.getD_eq_getElem?_getD, List.getElem?_eq_getElem hj] at this
    simpa using this

theorem length_put1 (l : List (Int × Int)) (i : Nat) (n : Int) : (put1 l i n).length = l.length := by simp [put1]
theorem getD_put1 (l : List (Int × Int)) (i j : Nat) (n : Int) (hi : i < l.length) : (put1 l i n).getD j (0, 0) = if i = j then ((l.getD j (0, 0)).1, n) else l.getD j (0, 0) := by
  unfold put1
  rw [List.getD_eq_getElem?_getD, List.getElem?_set]
  by_cases h : i = j
  · subst h; rw [if_pos rfl, if_pos hi, if_pos rfl]; rfl
  · rw [if_neg h, if_neg h, List.getD_eq_getElem?_getD]
theorem fst_put1 (l : List (Int × Int)) (i j : Nat) (n : Int) (hi : i < l.length) : ((put1 l i n).getD j (0, 0)).1 = (l.getD j (0, 0)).1 := by
  rw [getD_put1 l i j n hi]; split <;> rfl
theorem snd_put1 (l : List (Int × Int)) (i j : Nat) (n : Int) (hi : i < l.length) : ((put1 l i n).getD j (0, 0)).2 = if i = j then n else (l.getD j (0, 0)).2 := by
  rw [getD_put1 l i j n hi]; split <;> rfl
theorem num_put1 (l : List (Int × Int)) (i j : Nat) (n : Int) (hi : i < l.length) : num (put1 l i n) j = if i = j then n else num l j := snd_put1 l i j n hi
theorem ext_getD {l m : List (Int × Int)} (h : l.length = m.length) (hj : ∀ j, j < l.length → l.getD j (0, 0) = m.getD j (0, 0)) : l = m := by
  refine List.ext_getElem h fun i h1 h2 => ?_
  have := hj i h1
  rwa [List.getD_eq_getElem?_getD, List.getElem?_eq_getElem h1, List.getD_eq_getElem?_getD, List.getElem?_eq_getElem h2] at this
theorem okn_put1 {l : List (Int × Int)} (h : Okn l) {i : Nat} (hi : i < l.length) {n : Int} (h1 : -1073741824 ≤ n) (h2 : n ≤ 1073741824) : Okn (put1 l i n) := by
  refine okn_of (by rw [length_put1]; exact h.1) (fun j hj => ?_) (fun j k hjk hk => ?_)
  · rw [length_put1] at hj
    rw [fst_put1 l i j n hi, snd_put1 l i j n hi]
    have := h.at hj
    split <;> omega
  · rw [length_put1] at hk
    rw [fst_put1 l i j n hi, fst_put1 l i k n hi]
    intro e
    have := h.uni (by omega) hk e
    omega
theorem at1_put1 (l : List (Int × Int)) (i : Nat) (n : Int) (hi : i < l.length) (name : Int) : at1 (put1 l i n) name = at1 l name := by
  by_cases h : at1 l name < l.length
  · refine at1_of (by rw [length_put1]; exact h) (by rw [fst_put1 _ _ _ _ hi]; exact at1_hit h) (fun j hj => by rw [fst_put1 _ _ _ _ hi]; exact at1_before hj)
  · have e : at1 l name = l.length := by have := at1_le l name; omega
    rw [e, ← length_put1 l i n]
    exact at1_none (fun j hj => by rw [fst_put1 _ _ _ _ hi]; rw [length_put1] at hj; exact at1_before (by omega))

theorem getD_dropped (l : List (Int × Int)) (i j : Nat) (hi : i < l.length) (hj : j < l.length - 1) : ((l.set i (l.getD (l.length - 1) (0, 0))).take (l.length - 1)).getD j (0, 0) = if i = j then l.getD (l.length - 1) (0, 0) else l.getD j (0, 0) := by
  rw [List.getD_eq_getElem?_getD, List.getElem?_take, if_pos hj, List.getElem?_set]
  by_cases h : i = j
  · rw [if_pos h, if_pos hi, if_pos h]; rfl
  · rw [if_neg h, if_neg h, ← List.getD_eq_getElem?_getD]
theorem length_dropped (l : List (Int × Int)) (i : Nat) (p : Int × Int) : ((l.set i p).take (l.length - 1)).length = l.length - 1 := by simp

theorem len_do {l : List (Int × Int)} {c : Cl} (h : l.length ≤ 5) : (doCl l c).1.length ≤ 5 := by
  unfold doCl
  repeat' split
  all_goals first | exact h | (simp only [length_put1, length_dropped, List.length_append, List.length_cons, List.length_nil]; omega)

/-- What may be stays so. -/
theorem okn_do {l : List (Int × Int)} {c : Cl} (h : Okn l) (hc : wrongCl c = 0) : Okn (doCl l c).1 ∧ ((doCl l c).2.err = 0 ∨ (doCl l c).2.n = 0 ∧ (doCl l c).1 = l) ∧ -1073741824 ≤ (doCl l c).2.n ∧ (doCl l c).2.n ≤ 1073741824 := by
  have hl := h.len
  have hnum : ∀ i, i < l.length → -1073741824 ≤ num l i ∧ num l i ≤ 1073741824 := fun i hi => (h.at hi).2.2
  unfold wrongCl at hc
  by_cases k1 : 1 ≤ c.kind ∧ c.kind ≤ 6
  case neg => rw [if_pos k1] at hc; cases hc
  rw [if_neg (by simpa using k1)] at hc
  split at hc
  · cases hc
  rename_i hn
  split at hc
  · cases hc
  rename_i ho
  split at hc
  · cases hc
  rename_i hm
  unfold doCl
  by_cases h5 : c.kind = 5
  · rw [if_pos h5]
    exact ⟨h, .inl rfl, by simp only; omega, by simp only; omega⟩
  rw [if_neg h5]
  by_cases h1 : c.kind = 1
  · rw [if_pos h1]
    by_cases ha : at1 l c.name < l.length
    · rw [if_pos ha]
      exact ⟨okn_put1 h ha (by omega) (by omega), .inl rfl, (hnum _ ha).1, (hnum _ ha).2⟩
    · rw [if_neg ha]
      by_cases hf : 5 ≤ l.length
      · rw [if_pos hf]
        exact ⟨h, .inr ⟨rfl, rfl⟩, by simp only; omega, by simp only; omega⟩
      · rw [if_neg hf]
        have e : at1 l c.name = l.length := by have := at1_le l c.name; omega
        refine ⟨okn_of (by simp; omega) (fun j hj => ?_) (fun j k hjk hk => ?_), .inl rfl, by simp only; omega, by simp only; omega⟩
        · simp only [List.length_append, List.length_cons, List.length_nil] at hj
          by_cases hj' : j < l.length
          · rw [List.getD_eq_getElem?_getD, List.getElem?_append_left hj', ← List.getD_eq_getElem?_getD]
            exact h.at hj'
          · rw [List.getD_eq_getElem?_getD, List.getElem?_append_right (by omega), show j - l.length = 0 by omega]
            show 1 ≤ c.name ∧ c.name ≤ 255 ∧ -1073741824 ≤ c.n ∧ c.n ≤ 1073741824
            omega
        · simp only [List.length_append, List.length_cons, List.length_nil] at hk
          rw [List.getD_eq_getElem?_getD, List.getElem?_append_left (by omega), ← List.getD_eq_getElem?_getD]
          by_cases hk' : k < l.length
          · rw [List.getD_eq_getElem?_getD (i := k), List.getElem?_append_left hk', ← List.getD_eq_getElem?_getD]
            intro he
            have := h.uni (by omega) hk' he
            omega
          · rw [List.getD_eq_getElem?_getD (i := k), List.getElem?_append_right (by omega), show k - l.length = 0 by omega]
            exact at1_before (name := c.name) (by omega)
  rw [if_neg h1]
  by_cases ha : at1 l c.name < l.length
  case neg => rw [if_pos ha]; exact ⟨h, .inr ⟨rfl, rfl⟩, by simp only; omega, by simp only; omega⟩
  rw [if_neg (by simpa using ha)]
  by_cases h2 : c.kind = 2
  · rw [if_pos h2]; exact ⟨h, .inl rfl, (hnum _ ha).1, (hnum _ ha).2⟩
  rw [if_neg h2]
  by_cases h3 : c.kind = 3
  · rw [if_pos h3]
    refine ⟨okn_of (by rw [length_dropped]; omega) (fun j hj => ?_) (fun j k hjk hk => ?_), .inl rfl, (hnum _ ha).1, (hnum _ ha).2⟩
    · rw [length_dropped] at hj
      rw [getD_dropped l _ j ha hj]
      split
      · exact h.at (by omega)
      · exact h.at (by omega)
    · rw [length_dropped] at hk
      rw [getD_dropped l _ j ha (by omega), getD_dropped l _ k ha hk]
      intro he
      by_cases ej : at1 l c.name = j
      · rw [if_pos ej, if_neg (by omega)] at he
        have := h.uni (by omega) (by omega) he
        omega
      · rw [if_neg ej] at he
        by_cases ek : at1 l c.name = k
        · rw [if_pos ek] at he
          have := h.uni (by omega) (by omega) he
          omega
        · rw [if_neg ek] at he
          have := h.uni (by omega) (by omega) he
          omega
  rw [if_neg h3]
  by_cases h4 : c.kind = 4
  · rw [if_pos h4]
    by_cases hs : -1073741824 ≤ num l (at1 l c.name) + c.n ∧ num l (at1 l c.name) + c.n ≤ 1073741824
    · rw [if_neg (by simpa using hs)]
      exact ⟨okn_put1 h ha hs.1 hs.2, .inl rfl, hs.1, hs.2⟩
    · rw [if_pos hs]; exact ⟨h, .inr ⟨rfl, rfl⟩, by simp only; omega, by simp only; omega⟩
  rw [if_neg h4]
  by_cases hb : at1 l c.other < l.length
  case neg => rw [if_pos hb]; exact ⟨h, .inr ⟨rfl, rfl⟩, by simp only; omega, by simp only; omega⟩
  rw [if_neg (by simpa using hb)]
  exact ⟨okn_put1 (okn_put1 h ha (hnum _ hb).1 (hnum _ hb).2) (by rw [length_put1]; exact hb) (hnum _ ha).1 (hnum _ ha).2, .inl rfl, (hnum _ hb).1, (hnum _ hb).2⟩

theorem doCl_swap (l : List (Int × Int)) (a b : Int) : doCl l ⟨6, a, b, 0⟩ = if ¬ at1 l a < l.length then (l, ⟨6, 0⟩) else if ¬ at1 l b < l.length then (l, ⟨6, 0⟩)
    else (put1 (put1 l (at1 l a) (num l (at1 l b))) (at1 l b) (num l (at1 l a)), ⟨0, num l (at1 l b)⟩) := rfl
/-- Turned twice it is as it was. -/
theorem swap_twice (l : List (Int × Int)) (a b : Int) : (doCl (doCl l ⟨6, a, b, 0⟩).1 ⟨6, b, a, 0⟩).1 = l ∧ (doCl (doCl l ⟨6, a, b, 0⟩).1 ⟨6, b, a, 0⟩).2.err = (doCl l ⟨6, a, b, 0⟩).2.err := by
  rw [doCl_swap l a b]
  by_cases ha : at1 l a < l.length
  case neg =>
    rw [if_pos ha]
    simp only
    rw [doCl_swap l b a]
    by_cases hb : at1 l b < l.length
    · rw [if_neg (by simpa using hb), if_pos ha]; exact ⟨rfl, rfl⟩
    · rw [if_pos hb]; exact ⟨rfl, rfl⟩
  rw [if_neg (by simpa using ha)]
  by_cases hb : at1 l b < l.length
  case neg =>
    rw [if_pos hb]
    simp only
    rw [doCl_swap l b a, if_pos hb]; exact ⟨rfl, rfl⟩
  rw [if_neg (by simpa using hb)]
  simp only
  have hb1 : at1 l b < (put1 l (at1 l a) (num l (at1 l b))).length := by rw [length_put1]; exact hb
  have ha2 : at1 l a < (put1 (put1 l (at1 l a) (num l (at1 l b))) (at1 l b) (num l (at1 l a))).length := by rw [length_put1, length_put1]; exact ha
  have hb2 : at1 l b < (put1 (put1 l (at1 l a) (num l (at1 l b))) (at1 l b) (num l (at1 l a))).length := by rw [length_put1, length_put1]; exact hb
  rw [doCl_swap _ b a, at1_put1 _ _ _ hb1, at1_put1 _ _ _ ha, at1_put1 _ _ _ hb1, at1_put1 _ _ _ ha, if_neg (by simpa using hb2), if_neg (by simpa using ha2)]
  refine ⟨?_, rfl⟩
  have hb3 : at1 l b < (put1 (put1 (put1 l (at1 l a) (num l (at1 l b))) (at1 l b) (num l (at1 l a))) (at1 l b) (num (put1 (put1 l (at1 l a) (num l (at1 l b))) (at1 l b) (num l (at1 l a))) (at1 l a))).length := by rw [length_put1]; exact hb2
  have ha3 : at1 l a < (put1 (put1 (put1 l (at1 l a) (num l (at1 l b))) (at1 l b) (num l (at1 l a))) (at1 l b) (num (put1 (put1 l (at1 l a) (num l (at1 l b))) (at1 l b) (num l (at1 l a))) (at1 l a))).length := by rw [length_put1]; exact ha2
  refine ext_getD (by simp only [length_put1]) fun j hj => ?_
  refine Prod.ext ?_ ?_
  · rw [fst_put1 _ _ _ _ ha3, fst_put1 _ _ _ _ hb2, fst_put1 _ _ _ _ hb1, fst_put1 _ _ _ _ ha]
  · rw [snd_put1 _ _ _ _ ha3, snd_put1 _ _ _ _ hb2, snd_put1 _ _ _ _ hb1, snd_put1 _ _ _ _ ha, num_put1 _ _ _ _ hb1, num_put1 _ _ _ _ ha, num_put1 _ _ _ _ hb1]
    by_cases e1 : at1 l a = j
    · rw [if_pos e1]
      subst e1
      rw [if_pos rfl]
      rfl
    · rw [if_neg e1]
      by_cases e2 : at1 l b = j
      · rw [if_pos e2]
        subst e2
        rw [if_neg (fun e => e1 e.symm), num_put1 _ _ _ _ ha, if_pos rfl]
        rfl
      · rw [if_neg e2, if_neg e2, if_neg e1]

end Go.Mk

namespace Go.Mk
open Go Go.RowKit

/-- All calls, one by one. -/
def stepCl (s : List (Int × Int) × List (Int × Int)) (c : Cl) : List (Int × Int) × List (Int × Int) := ((doCl s.1 c).1, s.2 ++ [((doCl s.1 c).2.err, (doCl s.1 c).2.n)])

def allCl (cs : List Cl) : List (Int × Int) × List (Int × Int) := cs.foldl stepCl ([], [])

theorem allCl_snoc (cs : List Cl) (c : Cl) : allCl (cs ++ [c]) = stepCl (allCl cs) c := by simp [allCl]

theorem allCl_take {cs : List Cl} {k : Nat} {c : Cl} (h : cs[k]? = some c) : allCl (cs.take (k + 1)) = stepCl (allCl (cs.take k)) c := by
  rw [List.take_add_one, h]
  exact allCl_snoc _ _

theorem okn_nil : Okn [] := okn_of (by simp) (fun i hi => by simp at hi) (fun i j _ hj => by simp at hj)

theorem all_ok {cs : List Cl} (h : ∀ c ∈ cs, wrongCl c = 0) (k : Nat) : Okn (allCl (cs.take k)).1 ∧ (allCl (cs.take k)).2.length = min k cs.length := by
  induction k with
  | zero => exact ⟨okn_nil, by simp [allCl]⟩
  | succ k ih =>
    by_cases hk : k < cs.length
    · have hg : cs[k]? = some cs[k] := List.getElem?_eq_getElem hk
      rw [allCl_take hg]
      refine ⟨(okn_do ih.1 (h _ (List.getElem_mem hk))).1, ?_⟩
      simp only [stepCl, List.length_append, List.length_cons, List.length_nil, ih.2]
      omega
    · rw [List.take_of_length_le (by omega)]
      rw [List.take_of_length_le (by omega)] at ih
      exact ⟨ih.1, by rw [ih.2]; omega⟩

/-- The names that cells have. -/
def ofCells (xs : List Int) (n : Nat) : List (Int × Int) := (List.range n).map fun i => (xs.getD (1 + 2 * i) 0, xs.getD (1 + 2 * i + 1) 0)

theorem ofCells_succ (xs : List Int) (n : Nat) : ofCells xs (n + 1) = ofCells xs n ++ [(xs.getD (1 + 2 * n) 0, xs.getD (1 + 2 * n + 1) 0)] := by simp [ofCells, List.range_succ]

theorem length_ofCells (xs : List Int) (n : Nat) : (ofCells xs n).length = n := by simp [ofCells]

/-- Requests in memory. -/
def cells6 (l : List Rq) : List Value := l.flatMap fun r => [I r.client, I r.token, I r.call.kind, I r.call.name, I r.call.other, I r.call.n]

theorem length_cells6 (l : List Rq) : (cells6 l).length = l.length * 6 := by
  unfold cells6
  induction l with
  | nil => rfl
  | cons p l ih => simp [List.flatMap_cons, ih]; omega

theorem cells6_at (l : List Rq) (k : Nat) (r : Rq) (h : l[k]? = some r) : (cells6 l)[k * 6]? = some (I r.client) ∧ (cells6 l)[k * 6 + 1]? = some (I r.token) ∧ (cells6 l)[k * 6 + 2]? = some (I r.call.kind) ∧
    (cells6 l)[k * 6 + 3]? = some (I r.call.name) ∧ (cells6 l)[k * 6 + 4]? = some (I r.call.other) ∧ (cells6 l)[k * 6 + 5]? = some (I r.call.n) := by
  induction l generalizing k with
  | nil => simp at h
  | cons p l ih =>
    cases k with
    | zero =>
      simp at h
      subst h
      exact ⟨rfl, rfl, rfl, rfl, rfl, rfl⟩
    | succ k =>
      have := ih k (by simpa using h)
      rw [show (k + 1) * 6 = k * 6 + 6 by omega, show k * 6 + 6 + 1 = k * 6 + 1 + 6 by omega, show k * 6 + 6 + 2 = k * 6 + 2 + 6 by omega, show k * 6 + 6 + 3 = k * 6 + 3 + 6 by omega, show k * 6 + 6 + 4 = k * 6 + 4 + 6 by omega, show k * 6 + 6 + 5 = k * 6 + 5 + 6 by omega]
      exact this

/-- A slice of requests that reads as l. -/
def Reqs (w : World) (v : Value) (l : List Rq) : Prop := Row w 6 v l.length (cells6 l)

theorem Reqs.ext {w w' : World} {v : Value} {l : List Rq} (h : Reqs w v l) (he : Ext w w') : Reqs w' v l := Row.ext h he

theorem Reqs.form {w : World} {v : Value} {l : List Rq} (h : Reqs w v l) : ∃ ao cap, v = .slice ao l.length cap ∧ l.length ≤ cap ∧ cap ≤ maxLen ∧
    ∀ k r, l[k]? = some r → ∃ b off, ao = some ⟨b, off, none⟩ ∧ w.cell? ⟨b, off + k * 6, none⟩ = some (I r.client) ∧ w.cell? ⟨b, off + k * 6 + 1, none⟩ = some (I r.token) ∧ w.cell? ⟨b, off + k * 6 + 2, none⟩ = some (I r.call.kind) ∧
      w.cell? ⟨b, off + k * 6 + 3, none⟩ = some (I r.call.name) ∧ w.cell? ⟨b, off + k * 6 + 4, none⟩ = some (I r.call.other) ∧ w.cell? ⟨b, off + k * 6 + 5, none⟩ = some (I r.call.n) := by
  obtain ⟨_, ao, cap, h2, h3, h4, _, h5⟩ := h
  refine ⟨ao, cap, h2, h3, h4, fun k r hk => ?_⟩
  obtain ⟨c0, c1, c2, c3, c4, c5⟩ := cells6_at l k r hk
  obtain ⟨b, off, e, q0⟩ := h5 _ _ c0
  have all : ∀ j u, (cells6 l)[j]? = some u → w.cell? ⟨b, off + j, none⟩ = some u := fun j u hj => by
    obtain ⟨b', off', e', q⟩ := h5 j u hj
    rw [e] at e'
    simp only [Option.some.injEq, Addr.mk.injEq, and_true] at e'
    obtain ⟨rfl, rfl⟩ := e'
    exact q
  exact ⟨b, off, e, q0, all _ _ c1, all _ _ c2, all _ _ c3, all _ _ c4, all _ _ c5⟩

theorem doCl_count (l : List (Int × Int)) (a o n : Int) : doCl l ⟨5, a, o, n⟩ = (l, ⟨0, l.length⟩) := rfl

theorem doCl_put (l : List (Int × Int)) (a o n : Int) : doCl l ⟨1, a, o, n⟩ = if at1 l a < l.length then (put1 l (at1 l a) n, ⟨0, num l (at1 l a)⟩) else if 5 ≤ l.length then (l, ⟨9, 0⟩) else (l ++ [(a, n)], ⟨0, 0⟩) := rfl

theorem doCl_get (l : List (Int × Int)) (a o n : Int) : doCl l ⟨2, a, o, n⟩ = if ¬ at1 l a < l.length then (l, ⟨6, 0⟩) else (l, ⟨0, num l (at1 l a)⟩) := rfl

theorem doCl_drop (l : List (Int × Int)) (a o n : Int) : doCl l ⟨3, a, o, n⟩ = if ¬ at1 l a < l.length then (l, ⟨6, 0⟩) else ((l.set (at1 l a) (l.getD (l.length - 1) (0, 0))).take (l.length - 1), ⟨0, num l (at1 l a)⟩) := rfl

theorem doCl_add (l : List (Int × Int)) (a o n : Int) : doCl l ⟨4, a, o, n⟩ = if ¬ at1 l a < l.length then (l, ⟨6, 0⟩) else if ¬ (-1073741824 ≤ num l (at1 l a) + n ∧ num l (at1 l a) + n ≤ 1073741824) then (l, ⟨3, 0⟩) else (put1 l (at1 l a) (num l (at1 l a) + n), ⟨0, num l (at1 l a) + n⟩) := rfl

theorem doCl_swap' (l : List (Int × Int)) (a b n : Int) : doCl l ⟨6, a, b, n⟩ = if ¬ at1 l a < l.length then (l, ⟨6, 0⟩) else if ¬ at1 l b < l.length then (l, ⟨6, 0⟩)
    else (put1 (put1 l (at1 l a) (num l (at1 l b))) (at1 l b) (num l (at1 l a)), ⟨0, num l (at1 l b)⟩) := rfl

theorem wrongCl_zero {k a o n : Int} (h : wrongCl ⟨k, a, o, n⟩ = 0) : (k = 1 ∨ k = 2 ∨ k = 3 ∨ k = 4 ∨ k = 5 ∨ k = 6) ∧ (k = 1 ∨ k = 4 → -1073741824 ≤ n ∧ n ≤ 1073741824) := by
  unfold wrongCl at h
  dsimp only at h
  repeat' split at h
  all_goals first | exact absurd h (by decide) | (constructor <;> omega)

end Go.Mk

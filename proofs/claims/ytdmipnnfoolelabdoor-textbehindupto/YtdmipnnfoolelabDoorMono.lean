/- A region that draws its order, whose operations only compute or make new memory: one walk of the lexical order serves every order. Values that come out of loud operations are described by predicates that stay true while memory grows. -/
import Derived.Still
import Derived.StillTail
import Derived.Below
namespace Go.Mk
open Go Go.RowKit

/-- The world has grown: nothing that was there has turned. -/
def Ext (w w' : World) : Prop := Below w.heap.size w w'
theorem Ext.refl (w : World) : Ext w w := Below.refl _ _
theorem Ext.trans {a b c : World} (h : Ext a b) (k : Ext b c) : Ext a c := Below.trans h (Below.mono k h.size)
theorem Ext.drew {a w : World} (h : Ext a w) : Ext a w.drew := Below.drew h
theorem Ext.cell {w w' : World} (h : Ext w w') {p : Addr} {v : Value} (hp : w.cell? p = some v) : w'.cell? p = some v := by
  by_cases hb : p.block < w.heap.size
  · rw [Below.cell h hb]; exact hp
  · simp [World.cell?, Array.getElem?_eq_none (Nat.le_of_not_lt hb)] at hp

/-- What is known of each slot's value, world by world. -/
abbrev Fm := Tmp → World → Prop
def upd (F : Fm) (d : Option Tmp) (φ : World → Prop) : Fm := fun t w => if d = some t then φ w else F t w
def knows (F : Fm) (ops : Array Oper) (o : Oper) (w : World) : Prop := ∀ t ∈ o.looksAt ops, F t w
def MonoP (φ : World → Prop) : Prop := ∀ w w', Ext w w' → φ w → φ w'

/-- none: it computes; inl c: it hands back just c; inr T: it hands back something of which T is known. -/
abbrev Kind := Option (Value ⊕ (Value → World → Prop))

section
variable (P : Program) (w0 : World) (ops : Array Oper) (kd : Nat → Kind)

def makesUpon (w : World) (T : Value → World → Prop) : Result Next → Prop
  | .ok (.value v) w' => Ext w w' ∧ T v w'
  | .ok .skip w' => Ext w w' ∧ T undef w'
  | .ok (.enter f args) w' => Ext w w' ∧ Calls P f args w' (fun e w'' => ∃ v, e = .returned v ∧ Ext w' w'' ∧ T v w'')
  | _ => False
def makes (o : Oper) (a : Act) (w : World) (T : Value → World → Prop) : Prop := makesUpon P w T ((execOp a.eval o).run P w)

def OkK (k : Kind) (o : Oper) (a : Act) (F : Fm) : Prop :=
  match k with
  | none => ∃ c, ∀ w, Ext w0 w → (execOp a.eval o).run P w = .ok (.value c) w
  | some (.inl c) => ∀ w, Ext w0 w → knows F ops o w → makes P o a w (fun v _ => v = c)
  | some (.inr T) => ∀ w, Ext w0 w → knows F ops o w → makes P o a w T

def ValK (k : Kind) (o : Oper) (a : Act) (v : Value) (φ : World → Prop) : Prop :=
  match k with
  | none => (∀ w, Ext w0 w → (execOp a.eval o).run P w = .ok (.value v) w) ∧ φ = fun _ => True
  | some (.inl c) => v = c ∧ φ = fun _ => True
  | some (.inr T) => φ = T v

def OkO (k : Kind) (o : Oper) (a : Act) (F : Fm) : Prop :=
  Region.wanted o (yielded ops a.tmps) = true → OkK P w0 ops k o a F
def ValO (k : Kind) (o : Oper) (a : Act) (v : Value) (φ : World → Prop) : Prop :=
  (Region.wanted o (yielded ops a.tmps) = true ∧ ValK P w0 k o a v φ) ∨ (Region.wanted o (yielded ops a.tmps) = false ∧ v = undef ∧ φ = fun _ => True)

def opM (i : Nat) (K : Act → Fm → Prop) (a : Act) (F : Fm) : Prop :=
  match ops[i]? with
  | none => K a F
  | some o => OkO P w0 ops (kd i) o a F ∧ ∀ v φ, ValO P w0 ops (kd i) o a v φ → K (a.put o.dst v) (upd F o.dst φ)

def anyM (Q : Act → Fm → Prop) : Nat → Array Bool → Act → Fm → Prop
  | 0, listed, a, F => Region.ready .any ops listed = [] ∧ Q a F
  | fuel + 1, listed, a, F =>
    (Region.ready .any ops listed = [] → Q a F) ∧
    ∀ i ∈ Region.ready .any ops listed, opM P w0 ops kd i (anyM Q fuel (listed.setIfInBounds i true)) a F

end

section
variable {P : Program} {w0 : World} {ops : Array Oper} {kd : Nat → Kind}

theorem knows_upd {F : Fm} {o : Oper} {d : Option Tmp} {φ : World → Prop} (h : ∀ t, d = some t → t ∉ o.looksAt ops) : knows (upd F d φ) ops o = knows F ops o := by
  funext w
  apply propext
  constructor
  · intro hk t ht
    have := hk t ht
    unfold upd at this
    rwa [if_neg (fun e => h t e ht)] at this
  · intro hk t ht
    unfold upd
    rw [if_neg (fun e => h t e ht)]
    exact hk t ht

theorem OkK_same {k : Kind} {o : Oper} {a a' : Act} {F F' : Fm} (he : execOp a'.eval o = execOp a.eval o) (hF : knows F' ops o = knows F ops o) (h : OkK P w0 ops k o a F) : OkK P w0 ops k o a' F' := by
  unfold OkK makes at *
  rw [he, hF]
  exact h

theorem ValK_same {k : Kind} {o : Oper} {a a' : Act} {v : Value} {φ : World → Prop} (he : execOp a'.eval o = execOp a.eval o) (h : ValK P w0 k o a v φ) : ValK P w0 k o a' v φ := by
  unfold ValK at *
  rw [he]
  exact h

theorem upd_comm (F : Fm) {x y : Option Tmp} (φ ψ : World → Prop) (h : ∀ d, x = some d → y ≠ some d) : upd (upd F x φ) y ψ = upd (upd F y ψ) x φ := by
  funext t w
  unfold upd
  by_cases h1 : x = some t
  · have h2 : y ≠ some t := h t h1
    simp [h1, h2]
  · simp [h1]

/-- There is something that it may yield. -/
theorem ValO_ex {k : Kind} {o : Oper} {a : Act} {F : Fm} (h : OkO P w0 ops k o a F) : ∃ v φ, ValO P w0 ops k o a v φ := by
  by_cases hw : Region.wanted o (yielded ops a.tmps) = true
  · have hk := h hw
    match k with
    | none => obtain ⟨c, hc⟩ := hk; exact ⟨c, _, .inl ⟨hw, hc, rfl⟩⟩
    | some (.inl c) => exact ⟨c, _, .inl ⟨hw, rfl, rfl⟩⟩
    | some (.inr T) => exact ⟨undef, _, .inl ⟨hw, rfl⟩⟩
  · exact ⟨undef, _, .inr ⟨by simpa using hw, rfl, rfl⟩⟩

theorem OkO_put {k : Kind} {o : Oper} {a : Act} {F : Fm} {d : Option Tmp} {v : Value} {φ : World → Prop} (hs : ∀ cs b, o.op ≠ .select cs b) (h : ∀ t, d = some t → t ∉ o.looksAt ops) :
    OkO P w0 ops k o (a.put d v) (upd F d φ) ↔ OkO P w0 ops k o a F := by
  unfold OkO
  rw [wanted_put o a d v h]
  have he := execOp_put (ops := ops) o hs a d v h
  have hk := knows_upd (ops := ops) (F := F) (φ := φ) h
  exact ⟨fun x y => OkK_same he.symm hk.symm (x y), fun x y => OkK_same he hk (x y)⟩

theorem ValO_put {k : Kind} {o : Oper} {a : Act} {d : Option Tmp} {v u : Value} {ψ : World → Prop} (hs : ∀ cs b, o.op ≠ .select cs b) (h : ∀ t, d = some t → t ∉ o.looksAt ops) :
    ValO P w0 ops k o (a.put d v) u ψ ↔ ValO P w0 ops k o a u ψ := by
  unfold ValO
  rw [wanted_put o a d v h]
  have he := execOp_put (ops := ops) o hs a d v h
  constructor
  · rintro (x | x)
    · exact .inl ⟨x.1, ValK_same he.symm x.2⟩
    · exact .inr x
  · rintro (x | x)
    · exact .inl ⟨x.1, ValK_same he x.2⟩
    · exact .inr x

/-- An operation that may come up now may be taken first. -/
theorem anyM_first {Q : Act → Fm → Prop} {i : Nat} {oi : Oper} (hi : ops[i]? = some oi) (hsel : ∀ (j : Nat) (o : Oper) cs b, ops[j]? = some o → o.op ≠ .select cs b) :
    ∀ (fuel : Nat) (listed : Array Bool) (a : Act) (F : Fm),
      (∀ j oj, ops[j]? = some oj → j ≠ i → listed.getD j true = false → (∀ e ∈ oj.after, Region.binds .any e = true → e.on ≠ i) → oi.apart ops oj = true) →
      i ∈ Region.ready .any ops listed → OkO P w0 ops (kd i) oi a F →
      (∀ v φ, ValO P w0 ops (kd i) oi a v φ → anyM P w0 ops kd Q fuel (listed.setIfInBounds i true) (a.put oi.dst v) (upd F oi.dst φ)) →
      anyM P w0 ops kd Q (fuel + 1) listed a F := by
  intro fuel
  induction fuel with
  | zero =>
    intro listed a F _ hr hok H
    refine ⟨fun h => (by rw [h] at hr; cases hr), fun j hj => ?_⟩
    by_cases hji : j = i
    · subst hji
      unfold opM
      rw [hi]
      exact ⟨hok, H⟩
    · have := ready_mono hj hji
      obtain ⟨v, φ, hv⟩ := ValO_ex hok
      rw [(H v φ hv).1] at this
      cases this
  | succ fuel ih =>
    intro listed a F hfree hr hok H
    refine ⟨fun h => (by rw [h] at hr; cases hr), fun j hj => ?_⟩
    by_cases hji : j = i
    · subst hji
      unfold opM
      rw [hi]
      exact ⟨hok, H⟩
    · obtain ⟨hjun, oj, hoj, hall⟩ := mem_ready.1 hj
      have hnot : ∀ e ∈ oj.after, Region.binds .any e = true → e.on ≠ i := fun e he hb heq => by
        have h1 := hall e he hb
        have h0 := (mem_ready.1 hr).1
        rw [heq] at h1
        rcases Nat.lt_or_ge i listed.size with h' | h'
        · simp [h'] at h0 h1; rw [h0] at h1; cases h1
        · simp [Array.getElem?_eq_none h'] at h1
      obtain ⟨a1, a2, a3⟩ := Oper.apart_spec (hfree j oj hoj hji hjun hnot)
      have hsi : ∀ cs b, oi.op ≠ .select cs b := fun cs b => hsel i oi cs b hi
      have hsj : ∀ cs b, oj.op ≠ .select cs b := fun cs b => hsel j oj cs b hoj
      have hfree' : ∀ k ok, ops[k]? = some ok → k ≠ i → (listed.setIfInBounds j true).getD k true = false →
          (∀ e ∈ ok.after, Region.binds .any e = true → e.on ≠ i) → oi.apart ops ok = true := fun k ok hk hki hun hno => by
        refine hfree k ok hk hki ?_ hno
        by_cases hjk : j = k
        · subst hjk; exact hjun
        · rw [getD_set_ne true hjk] at hun; exact hun
      have at_j : ∀ v φ, ValO P w0 ops (kd i) oi a v φ → OkO P w0 ops (kd j) oj (a.put oi.dst v) (upd F oi.dst φ) ∧
          ∀ u ψ, ValO P w0 ops (kd j) oj (a.put oi.dst v) u ψ →
            anyM P w0 ops kd Q fuel ((listed.setIfInBounds i true).setIfInBounds j true) ((a.put oi.dst v).put oj.dst u) (upd (upd F oi.dst φ) oj.dst ψ) := fun v φ hv => by
        have := (H v φ hv).2 j (ready_mono hj hji)
        unfold opM at this
        rw [hoj] at this
        exact this
      unfold opM
      rw [hoj]
      refine ⟨?_, fun u ψ hu => ?_⟩
      · obtain ⟨v, φ, hv⟩ := ValO_ex hok
        exact (OkO_put hsj a1).1 (at_j v φ hv).1
      · refine ih (listed.setIfInBounds j true) _ _ hfree' (ready_mono hr (Ne.symm hji)) ((OkO_put hsi a3).2 hok) fun v φ hv => ?_
        have hv' := (ValO_put hsi a3).1 hv
        have := (at_j v φ hv').2 u ψ ((ValO_put hsj a1).2 hu)
        rw [Array.setIfInBounds_comm _ _ hji, ← Act.put_comm a v u a2, ← upd_comm F φ ψ a2]
        exact this

/-- The walk that is typed: the operations in their order. -/
def wpM (P : Program) (w0 : World) (ops : Array Oper) (Q : Act → Fm → Prop) : List Oper → List Kind → Act → Fm → Prop
  | [], _, a, F => Q a F
  | o :: l, ks, a, F => OkO P w0 ops (ks.headD none) o a F ∧ ∀ v φ, ValO P w0 ops (ks.headD none) o a v φ → wpM P w0 ops Q l ks.tail (a.put o.dst v) (upd F o.dst φ)

theorem anyM_lex {Q : Act → Fm → Prop} (hs : Region.noSelect ops = true) (K : List Kind) : ∀ (l : List Oper) (ks : List Kind) (k : Nat) (listed : Array Bool) (a : Act) (F : Fm), (∀ j, l[j]? = ops[k + j]?) → (ks = K.drop k) →
    Region.lexFrom .any ops l.length k listed = true → wpM P w0 ops Q l ks a F → anyM P w0 ops (fun i => K.getD i none) Q l.length listed a F
  | [], _, _, _, _, _, _, _, hB, h => ⟨by simpa [Region.lexFrom] using hB, h⟩
  | o :: l, ks, k, listed, a, F, hl, hk, hB, h => by
    have h0 : ops[k]? = some o := by simpa using (hl 0).symm
    simp only [List.length_cons, Region.lexFrom, Bool.and_eq_true] at hB
    obtain ⟨⟨hr, hf⟩, hB'⟩ := hB
    have hd : ks.headD none = K.getD k none := by
      rw [hk, List.headD_eq_head?_getD, List.head?_drop, List.getD_eq_getElem?_getD]
    obtain ⟨hok, hrest⟩ := h
    rw [hd] at hok hrest
    exact anyM_first h0 (Region.noSelect_spec hs) l.length listed a F (Region.free_spec h0 hf) (by simpa using hr) hok fun v φ hv =>
      anyM_lex hs K l ks.tail (k + 1) _ _ _ (fun j => by have := hl (j + 1); simpa [Nat.add_assoc, Nat.add_comm 1 j] using this) (by rw [hk]; simp) hB' (hrest v φ hv)

/-- Sound: from every world that has grown out of the first, where what is known holds. -/
theorem any_of_anyM {Q : Act → Fm → Prop} {Q' : Exit → Act → World → Prop} (hT : ∀ i T, kd i = some (.inr T) → ∀ v, MonoP (T v))
    (hQ : ∀ a F w, Ext w0 w → (∀ t, F t w) → Q a F → Q' .normal a w) : ∀ (fuel : Nat) (listed : Array Bool) (a : Act) (F : Fm) (w : World), Ext w0 w → (∀ t, F t w) → (∀ t, MonoP (F t)) →
    anyM P w0 ops kd Q fuel listed a F → wpAny P .any ops Q' fuel listed a w
  | 0, _, _, _, _, hw, hF, _, h => ⟨h.1, hQ _ _ _ hw hF h.2⟩
  | fuel + 1, listed, a, F, w, hw, hF, hM, h => by
    refine ⟨fun h0 => hQ _ _ _ hw hF (h.1 h0), fun i hi => ?_⟩
    have hi' := h.2 i hi
    unfold opM at hi'
    unfold wpOp
    cases ho : ops[i]? with
    | none => rw [ho] at hi'; exact any_of_anyM hT hQ fuel _ _ _ _ hw hF hM hi'
    | some o =>
      rw [ho] at hi'
      obtain ⟨hok, hnext⟩ := hi'
      simp only []
      by_cases hwt : Region.wanted o (yielded ops a.tmps) = true
      · rw [if_pos hwt]
        refine .inl ?_
        have hk := hok hwt
        have hkn : knows F ops o w := fun t _ => hF t
        unfold OkK at hk
        -- what is known stays known
        have go : ∀ (v : Value) (φ : World → Prop) (w' : World), Ext w w' → φ w' → MonoP φ → ValO P w0 ops (kd i) o a v φ → wpAny P .any ops Q' fuel (listed.setIfInBounds i true) (a.put o.dst v) w' := fun v φ w' he hφ hm hv => by
          refine any_of_anyM hT hQ fuel _ _ _ _ (hw.trans he) ?_ ?_ (hnext v φ hv)
          · intro t
            unfold upd
            split
            · exact hφ
            · exact hM t _ _ he (hF t)
          · intro t w1 w2 h12
            unfold upd
            split
            · exact hm _ _ h12
            · exact hM t _ _ h12
        have loud : ∀ T : Value → World → Prop, (∀ v, MonoP (T v)) → (∀ v w', Ext w w' → T v w' → wpAny P .any ops Q' fuel (listed.setIfInBounds i true) (a.put o.dst v) w') → makes P o a w T → o.wp P a w (wpAny P .any ops Q' fuel (listed.setIfInBounds i true)) Q' := fun T _ hgo hmk => by
          unfold makes at hmk
          unfold Oper.wp
          generalize (execOp a.eval o).run P w = r at *
          cases r with
          | ok n w' =>
            cases n <;> simp only [makesUpon] at hmk <;> simp only [Oper.upon]
            case value u => exact hgo u w' hmk.1 hmk.2
            case skip => exact hgo _ w' hmk.1 hmk.2
            case enter f args =>
              refine Calls.mono hmk.2 fun e w'' he => ?_
              obtain ⟨v, rfl, h2, h3⟩ := he
              exact hgo v w'' (hmk.1.trans h2) h3
          | halt x w' => simp only [makesUpon] at hmk
        cases hkd : kd i with
        | none =>
          rw [hkd] at hk
          obtain ⟨c, hc⟩ := hk
          unfold Oper.wp
          rw [hc w hw]
          simp only [Oper.upon]
          exact go c (fun _ => True) w (Ext.refl _) trivial (fun _ _ _ h => h) (.inl ⟨hwt, by rw [hkd]; exact ⟨hc, rfl⟩⟩)
        | some s =>
          cases s with
          | inl c =>
            rw [hkd] at hk
            refine loud _ (fun v w1 w2 _ h => h) (fun v w' he hv => ?_) (hk w hw hkn)
            subst hv
            exact go _ (fun _ => True) w' he trivial (fun _ _ _ h => h) (.inl ⟨hwt, by rw [hkd]; exact ⟨rfl, rfl⟩⟩)
          | inr T =>
            rw [hkd] at hk
            exact loud T (hT i T hkd) (fun v w' he hv => go v (T v) w' he hv (hT i T hkd v) (.inl ⟨hwt, by rw [hkd]; rfl⟩)) (hk w hw hkn)
      · rw [if_neg hwt]
        refine any_of_anyM hT hQ fuel _ _ _ _ hw ?_ ?_ (hnext undef (fun _ => True) (.inr ⟨by simpa using hwt, rfl, rfl⟩))
        · intro t
          unfold upd
          split
          · trivial
          · exact hF t
        · intro t w1 w2 h12
          unfold upd
          split
          · exact id
          · exact hM t _ _ h12

section steps
variable {Q : Act → Fm → Prop} {o : Oper} {l : List Oper} {ks : List Kind} {a : Act} {F : Fm}

theorem wpM_nil (h : Q a F) : wpM P w0 ops Q [] ks a F := h

/-- An operation that only computes: what follows behind a variable. -/
theorem wpM_p (h : ∀ K : Act → Prop, (∀ a', wpM P w0 ops Q l ks a' (upd F o.dst (fun _ => True)) → K a') →
    if Region.wanted o (yielded ops a.tmps) then ∃ c, (∀ w, (execOp a.eval o).run P w = .ok (.value c) w) ∧ K (a.put o.dst c) else K (a.put o.dst undef)) : wpM P w0 ops Q (o :: l) (none :: ks) a F := by
  have h := h _ (fun _ h => h)
  by_cases hw : Region.wanted o (yielded ops a.tmps) = true
  · rw [if_pos hw] at h
    obtain ⟨c, hc, hk⟩ := h
    refine ⟨fun _ => ⟨c, fun w _ => hc w⟩, fun v φ hv => ?_⟩
    rcases hv with ⟨_, hv, rfl⟩ | ⟨hn, _, _⟩
    · have := hv w0 (Ext.refl _)
      rw [hc] at this
      cases this
      exact hk
    · rw [hw] at hn; cases hn
  · rw [if_neg hw] at h
    refine ⟨fun h' => absurd h' hw, fun v φ hv => ?_⟩
    rcases hv with ⟨hn, _⟩ | ⟨_, rfl, rfl⟩
    · exact absurd hn hw
    · exact h

/-- An operation that looks into memory that was there: its value named. -/
theorem wpM_q (c : Value) (hw : Region.wanted o (yielded ops a.tmps) = true) (hc : ∀ w, Ext w0 w → (execOp a.eval o).run P w = .ok (.value c) w) (hk : wpM P w0 ops Q l ks (a.put o.dst c) (upd F o.dst (fun _ => True))) :
    wpM P w0 ops Q (o :: l) (none :: ks) a F := by
  refine ⟨fun _ => ⟨c, hc⟩, fun v φ hv => ?_⟩
  rcases hv with ⟨_, hv, rfl⟩ | ⟨hn, _, _⟩
  · have := hv w0 (Ext.refl _)
    rw [hc _ (Ext.refl _)] at this
    cases this
    exact hk
  · rw [hw] at hn; cases hn

/-- An operation that its guard keeps out. -/
theorem wpM_skip (hw : Region.wanted o (yielded ops a.tmps) = false) (hk : wpM P w0 ops Q l ks.tail (a.put o.dst undef) (upd F o.dst (fun _ => True))) : wpM P w0 ops Q (o :: l) ks a F := by
  refine ⟨fun h => (by rw [hw] at h; cases h), fun v φ hv => ?_⟩
  rcases hv with ⟨hn, _⟩ | ⟨_, rfl, rfl⟩
  · rw [hw] at hn; cases hn
  · exact hk

theorem wpM_x (c : Value) (hw : Region.wanted o (yielded ops a.tmps) = true) (hc : ∀ w, Ext w0 w → knows F ops o w → makes P o a w (fun v _ => v = c)) (hk : wpM P w0 ops Q l ks (a.put o.dst c) (upd F o.dst (fun _ => True))) :
    wpM P w0 ops Q (o :: l) (some (.inl c) :: ks) a F := by
  refine ⟨fun _ => hc, fun v φ hv => ?_⟩
  rcases hv with ⟨_, rfl, rfl⟩ | ⟨hn, _, _⟩
  · exact hk
  · rw [hw] at hn; cases hn

theorem wpM_l (T : Value → World → Prop) (hw : Region.wanted o (yielded ops a.tmps) = true) (hc : ∀ w, Ext w0 w → knows F ops o w → makes P o a w T) (hk : ∀ v, wpM P w0 ops Q l ks (a.put o.dst v) (upd F o.dst (T v))) :
    wpM P w0 ops Q (o :: l) (some (.inr T) :: ks) a F := by
  refine ⟨fun _ => hc, fun v φ hv => ?_⟩
  rcases hv with ⟨_, rfl⟩ | ⟨hn, _, _⟩
  · exact hk v
  · rw [hw] at hn; cases hn

/-- A call, by its contract. -/
theorem makes_call {f : FuncId} {args : Array Value} {w : World} {T : Value → World → Prop} (hrun : (execOp a.eval o).run P w = .ok (.enter f args) w)
    (hc : Calls P f args w (fun e w'' => ∃ v, e = .returned v ∧ Ext w w'' ∧ T v w'')) : makes P o a w T := by
  unfold makes
  rw [hrun]
  exact ⟨Ext.refl _, hc⟩

/-- An operation that makes memory. -/
theorem makes_value {v : Value} {w w' : World} {T : Value → World → Prop} (hrun : (execOp a.eval o).run P w = .ok (.value v) w') (he : Ext w w') (ht : T v w') : makes P o a w T := by
  unfold makes
  rw [hrun]
  exact ⟨he, ht⟩
end steps

def mono1 : Kind → Prop
  | some (.inr T) => ∀ v, MonoP (T v)
  | _ => True

def monoAll : List Kind → Prop
  | [] => True
  | k :: K => mono1 k ∧ monoAll K
theorem monoAll_mem : ∀ {K : List Kind}, monoAll K → ∀ k ∈ K, mono1 k
  | [], _, k, hk => by cases hk
  | _ :: _, h, k, hk => by
    rcases List.mem_cons.1 hk with rfl | hk
    · exact h.1
    · exact monoAll_mem h.2 k hk

/-- ONE WALK SERVES EVERY ORDER. -/
theorem wp_region_mono {id : Nat} {Q : Exit → Act → World → Prop} {a : Act} {w : World} {l : List Oper} (K : List Kind) (hm : P.follows .mixedOrders = true) (hB : Region.lexB .any l.toArray = true)
    (hT : monoAll K)
    (h : wpM P w l.toArray (fun a' F => ∀ w', Ext w w' → (∀ t, F t w') → Q .normal a' w') l K a (fun _ _ => True)) : (Code.region id l.toArray true).wp P Q a w := by
  replace hT := monoAll_mem hT
  simp only [Region.lexB, Bool.and_eq_true] at hB
  refine wp_region_any hm (any_of_anyM (w0 := w) (kd := fun i => K.getD i none) (Q := fun a' F => ∀ w', Ext w w' → (∀ t, F t w') → Q .normal a' w') ?_ (fun a F w' hw hF h => h w' hw hF) _ _ _ (fun _ _ => True) _ ((Ext.refl w).drew) (fun _ => trivial) (fun _ _ _ _ h => h) ?_)
  · intro i T hi v
    have hmem : some (Sum.inr T) ∈ K := by
      rw [List.getD_eq_getElem?_getD] at hi
      cases hx : K[i]? with
      | none => rw [hx] at hi; cases hi
      | some y => rw [hx] at hi; simp at hi; subst hi; exact List.mem_of_getElem? hx
    exact hT _ hmem v
  · have := anyM_lex (P := P) (w0 := w) (ops := l.toArray) hB.1 K l K 0 (Array.replicate l.toArray.size false) a (fun _ _ => True) (by simp) (by simp) (by simpa using hB.2) h
    simpa using this

/-! ### A region whose last operations are forced, one behind the other, and come behind all others: these may write. -/

def headM (P : Program) (w0 : World) (ops : Array Oper) (kd : Nat → Kind) (n : Nat) (L : Array Bool → Act → Fm → Prop) : Nat → Array Bool → Act → Fm → Prop
  | 0, listed, a, F => L listed a F
  | f + 1, listed, a, F =>
    Region.ready .any ops listed ≠ [] ∧ ∀ i ∈ Region.ready .any ops listed, i < n ∧ opM P w0 ops kd i (headM P w0 ops kd n L f (listed.setIfInBounds i true)) a F

theorem headM_first {n i : Nat} {oi : Oper} {L : Array Bool → Act → Fm → Prop} (hi : ops[i]? = some oi) (hsel : ∀ (j : Nat) (o : Oper) cs b, ops[j]? = some o → o.op ≠ .select cs b)
    (hs : Region.sinkB .any ops n = true) (hc : Region.chainB .any ops n = true) (hn : n < ops.size) (hin : i < n)
    (hdone : ∀ listed a F, L listed a F → ∀ j ∈ Region.ready .any ops listed, n ≤ j) :
    ∀ (f : Nat) (listed : Array Bool) (a : Act) (F : Fm), HeadInv .any ops n listed →
      (∀ j oj, ops[j]? = some oj → j ≠ i → listed.getD j true = false → (∀ e ∈ oj.after, Region.binds .any e = true → e.on ≠ i) → oi.apart ops oj = true) →
      i ∈ Region.ready .any ops listed → OkO P w0 ops (kd i) oi a F →
      (∀ v φ, ValO P w0 ops (kd i) oi a v φ → headM P w0 ops kd n L f (listed.setIfInBounds i true) (a.put oi.dst v) (upd F oi.dst φ)) →
      headM P w0 ops kd n L (f + 1) listed a F := by
  intro f
  induction f with
  | zero =>
    intro listed a F inv _ hr hok H
    have hun := (mem_ready.1 hr).1
    refine ⟨fun h => (by rw [h] at hr; cases hr), fun j hj => ?_⟩
    have hjn : j < n := by
      rcases Nat.lt_or_ge j n with h | h
      · exact h
      · exact absurd hj (tail_waits hs hc hn inv _ i rfl hin hun j h)
    refine ⟨hjn, ?_⟩
    by_cases hji : j = i
    · subst hji
      unfold opM
      rw [hi]
      exact ⟨hok, H⟩
    · obtain ⟨v, φ, hv⟩ := ValO_ex hok
      have := hdone _ _ _ (H v φ hv) j (ready_mono hj hji)
      omega
  | succ f ih =>
    intro listed a F inv hfree hr hok H
    have hun := (mem_ready.1 hr).1
    refine ⟨fun h => (by rw [h] at hr; cases hr), fun j hj => ?_⟩
    have hjn : j < n := by
      rcases Nat.lt_or_ge j n with h | h
      · exact h
      · exact absurd hj (tail_waits hs hc hn inv _ i rfl hin hun j h)
    refine ⟨hjn, ?_⟩
    by_cases hji : j = i
    · subst hji
      unfold opM
      rw [hi]
      exact ⟨hok, H⟩
    · obtain ⟨hjun, oj, hoj, hall⟩ := mem_ready.1 hj
      have hnot : ∀ e ∈ oj.after, Region.binds .any e = true → e.on ≠ i := fun e he hb heq => by
        have h1 := hall e he hb
        rw [heq, getD_both hun] at h1
        cases h1
      obtain ⟨a1, a2, a3⟩ := Oper.apart_spec (hfree j oj hoj hji hjun hnot)
      have hsi : ∀ cs b, oi.op ≠ .select cs b := fun cs b => hsel i oi cs b hi
      have hsj : ∀ cs b, oj.op ≠ .select cs b := fun cs b => hsel j oj cs b hoj
      have hfree' : ∀ k ok, ops[k]? = some ok → k ≠ i → (listed.setIfInBounds j true).getD k true = false →
          (∀ e ∈ ok.after, Region.binds .any e = true → e.on ≠ i) → oi.apart ops ok = true := fun k ok hk hki hun hno => by
        refine hfree k ok hk hki ?_ hno
        by_cases hjk : j = k
        · subst hjk; exact hjun
        · rw [getD_set_ne true hjk] at hun; exact hun
      have at_j : ∀ v φ, ValO P w0 ops (kd i) oi a v φ → OkO P w0 ops (kd j) oj (a.put oi.dst v) (upd F oi.dst φ) ∧
          ∀ u ψ, ValO P w0 ops (kd j) oj (a.put oi.dst v) u ψ →
            headM P w0 ops kd n L f ((listed.setIfInBounds i true).setIfInBounds j true) ((a.put oi.dst v).put oj.dst u) (upd (upd F oi.dst φ) oj.dst ψ) := fun v φ hv => by
        have := ((H v φ hv).2 j (ready_mono hj hji)).2
        unfold opM at this
        rw [hoj] at this
        exact this
      unfold opM
      rw [hoj]
      refine ⟨?_, fun u ψ hu => ?_⟩
      · obtain ⟨v, φ, hv⟩ := ValO_ex hok
        exact (OkO_put hsj a1).1 (at_j v φ hv).1
      · refine ih (listed.setIfInBounds j true) _ _ (inv.set hj hjn) hfree' (ready_mono hr (Ne.symm hji)) ((OkO_put hsi a3).2 hok) fun v φ hv => ?_
        have hv' := (ValO_put hsi a3).1 hv
        have := (at_j v φ hv').2 u ψ ((ValO_put hsj a1).2 hu)
        rw [Array.setIfInBounds_comm _ _ hji, ← Act.put_comm a v u a2, ← upd_comm F φ ψ a2]
        exact this

theorem headM_lex {n g : Nat} {Lq : Act → Fm → Prop} (K : List Kind) (hsel : Region.noSelect ops = true) (hs : Region.sinkB .any ops n = true) (hc : Region.chainB .any ops n = true) (hn : n < ops.size) :
    ∀ (l : List Oper) (ks : List Kind) (k : Nat) (listed : Array Bool) (a : Act) (F : Fm), (∀ j, j < l.length → l[j]? = ops[k + j]?) → (ks = K.drop k) → k + l.length = n → HeadInv .any ops n listed →
    Region.lexHead .any ops g l.length k listed = true → wpM P w0 ops Lq l ks a F →
    headM P w0 ops (fun i => K.getD i none) n (fun listed' a' F' => Region.seqB .any ops g n listed' = true ∧ Lq a' F') l.length listed a F
  | [], _, k, listed, a, F, _, _, hk, _, hB, h => by
    have : k = n := by simpa using hk
    subst this
    exact ⟨by simpa [Region.lexHead] using hB, h⟩
  | o :: l, ks, k, listed, a, F, hl, hks, hk, inv, hB, h => by
    have h0 : ops[k]? = some o := by simpa using (hl 0 (by simp)).symm
    simp only [List.length_cons, Region.lexHead, Bool.and_eq_true] at hB
    obtain ⟨⟨hr, hf⟩, hB'⟩ := hB
    have hkn : k < n := by simp only [List.length_cons] at hk; omega
    have hr' : k ∈ Region.ready .any ops listed := by simpa using hr
    have hd : ks.headD none = K.getD k none := by
      rw [hks, List.headD_eq_head?_getD, List.head?_drop, List.getD_eq_getElem?_getD]
    obtain ⟨hok, hrest⟩ := h
    rw [hd] at hok hrest
    exact headM_first h0 (Region.noSelect_spec hsel) hs hc hn hkn (fun listed' a' F' hL => seqB_ready hL.1) l.length listed a F inv (Region.free_spec h0 hf) hr' hok fun v φ hv =>
      headM_lex K hsel hs hc hn l ks.tail (k + 1) _ _ _ (fun j hj => by have := hl (j + 1) (by simp; omega); simpa [Nat.add_assoc, Nat.add_comm 1 j] using this) (by rw [hks]; simp) (by simp only [List.length_cons] at hk; omega) (inv.set hr' hkn) hB' (hrest v φ hv)

/-- One operation, sound. -/
theorem opM_sound {i : Nat} {K : Act → Fm → Prop} {K' : Act → World → Prop} {Q' : Exit → Act → World → Prop} {a : Act} {F : Fm} {w : World} (hT : ∀ i T, kd i = some (.inr T) → ∀ v, MonoP (T v))
    (hw : Ext w0 w) (hF : ∀ t, F t w) (hM : ∀ t, MonoP (F t)) (hK : ∀ a F w, Ext w0 w → (∀ t, F t w) → (∀ t, MonoP (F t)) → K a F → K' a w)
    (hi' : opM P w0 ops kd i K a F) : wpOp P ops Q' i K' a w := by
  unfold opM at hi'
  unfold wpOp
  cases ho : ops[i]? with
  | none => rw [ho] at hi'; exact hK _ _ _ hw hF hM hi'
  | some o =>
    rw [ho] at hi'
    obtain ⟨hok, hnext⟩ := hi'
    simp only []
    by_cases hwt : Region.wanted o (yielded ops a.tmps) = true
    · rw [if_pos hwt]
      refine .inl ?_
      have hk := hok hwt
      have hkn : knows F ops o w := fun t _ => hF t
      unfold OkK at hk
      have go : ∀ (v : Value) (φ : World → Prop) (w' : World), Ext w w' → φ w' → MonoP φ → ValO P w0 ops (kd i) o a v φ → K' (a.put o.dst v) w' := fun v φ w' he hφ hm hv => by
        refine hK _ _ _ (hw.trans he) ?_ ?_ (hnext v φ hv)
        · intro t
          unfold upd
          split
          · exact hφ
          · exact hM t _ _ he (hF t)
        · intro t w1 w2 h12
          unfold upd
          split
          · exact hm _ _ h12
          · exact hM t _ _ h12
      have loud : ∀ T : Value → World → Prop, (∀ v w', Ext w w' → T v w' → K' (a.put o.dst v) w') → makes P o a w T → o.wp P a w K' Q' := fun T hgo hmk => by
        unfold makes at hmk
        unfold Oper.wp
        generalize (execOp a.eval o).run P w = r at *
        cases r with
        | ok n w' =>
          cases n <;> simp only [makesUpon] at hmk <;> simp only [Oper.upon]
          case value u => exact hgo u w' hmk.1 hmk.2
          case skip => exact hgo _ w' hmk.1 hmk.2
          case enter f args =>
            refine Calls.mono hmk.2 fun e w'' he => ?_
            obtain ⟨v, rfl, h2, h3⟩ := he
            exact hgo v w'' (hmk.1.trans h2) h3
        | halt x w' => simp only [makesUpon] at hmk
      cases hkd : kd i with
      | none =>
        rw [hkd] at hk
        obtain ⟨c, hc⟩ := hk
        unfold Oper.wp
        rw [hc w hw]
        simp only [Oper.upon]
        exact go c (fun _ => True) w (Ext.refl _) trivial (fun _ _ _ h => h) (.inl ⟨hwt, by rw [hkd]; exact ⟨hc, rfl⟩⟩)
      | some s =>
        cases s with
        | inl c =>
          rw [hkd] at hk
          refine loud _ (fun v w' he hv => ?_) (hk w hw hkn)
          subst hv
          exact go _ (fun _ => True) w' he trivial (fun _ _ _ h => h) (.inl ⟨hwt, by rw [hkd]; exact ⟨rfl, rfl⟩⟩)
        | inr T =>
          rw [hkd] at hk
          exact loud T (fun v w' he hv => go v (T v) w' he hv (hT i T hkd v) (.inl ⟨hwt, by rw [hkd]; rfl⟩)) (hk w hw hkn)
    · rw [if_neg hwt]
      refine hK _ _ _ hw ?_ ?_ (hnext undef (fun _ => True) (.inr ⟨by simpa using hwt, rfl, rfl⟩))
      · intro t
        unfold upd
        split
        · trivial
        · exact hF t
      · intro t w1 w2 h12
        unfold upd
        split
        · exact id
        · exact hM t _ _ h12

theorem any_of_headM {n g : Nat} {L : Array Bool → Act → Fm → Prop} {Q' : Exit → Act → World → Prop} (hT : ∀ i T, kd i = some (.inr T) → ∀ v, MonoP (T v))
    (hL : ∀ listed a F w, Ext w0 w → (∀ t, F t w) → L listed a F → wpAny P .any ops Q' g listed a w) :
    ∀ (f : Nat) (listed : Array Bool) (a : Act) (F : Fm) (w : World), Ext w0 w → (∀ t, F t w) → (∀ t, MonoP (F t)) → headM P w0 ops kd n L f listed a F → wpAny P .any ops Q' (f + g) listed a w
  | 0, listed, a, F, w, hw, hF, _, h => by rw [Nat.zero_add]; exact hL _ _ _ _ hw hF h
  | f + 1, listed, a, F, w, hw, hF, hM, h => by
    rw [show f + 1 + g = (f + g) + 1 by omega]
    exact ⟨fun h0 => absurd h0 h.1, fun i hi => opM_sound hT hw hF hM (fun a F w hw hF hM h => any_of_headM hT hL f _ a F w hw hF hM h) (h.2 i hi).2⟩

theorem mono_of_list {K : List Kind} (hT : ∀ k ∈ K, mono1 k) : ∀ i T, (fun i => K.getD i none) i = some (Sum.inr T) → ∀ v, MonoP (T v) := by
  intro i T hi v
  have hmem : some (Sum.inr T) ∈ K := by
    simp only [] at hi
    rw [List.getD_eq_getElem?_getD] at hi
    cases hx : K[i]? with
    | none => rw [hx] at hi; cases hi
    | some y => rw [hx] at hi; simp at hi; subst hi; exact List.mem_of_getElem? hx
  exact hT _ hmem v

/-- ONE WALK SERVES EVERY ORDER OF THE HEAD (the first n operations); the tail is walked as it stands. -/
theorem wp_region_mono_tail {id : Nat} {Q : Exit → Act → World → Prop} {a : Act} {w : World} {l : List Oper} (n : Nat) (K : List Kind) (hm : P.follows .mixedOrders = true) (hB : Region.lexTailB .any l.toArray n = true)
    (hT : monoAll K)
    (h : wpM P w l.toArray (fun a' F => ∀ w', Ext w w' → (∀ t, F t w') → wpList P l.toArray Q (l.drop n) a' w') (l.take n) K a (fun _ _ => True)) : (Code.region id l.toArray true).wp P Q a w := by
  replace hT := monoAll_mem hT
  simp only [Region.lexTailB, Bool.and_eq_true, decide_eq_true_eq] at hB
  obtain ⟨⟨⟨⟨hsel, hn⟩, hs⟩, hc⟩, hlex⟩ := hB
  have hn' : n < l.length := by simpa using hn
  have htl : (l.take n).length = n := by simp; omega
  have hdl : (l.drop n).length = l.toArray.size - n := by simp
  have inv0 : HeadInv .any l.toArray n (Array.replicate l.toArray.size false) :=
    ⟨by simp, fun j oj _ hl => (by rw [getD_replicate_false] at hl; cases hl), fun t _ ht => getD_in (by simpa using ht) (getD_replicate_false _ _)⟩
  have H := headM_lex (P := P) (w0 := w) (g := l.toArray.size - n) K hsel hs hc hn (l.take n) K 0 _ a (fun _ _ => True) (fun j hj => by
    have hj' : j < n := by rw [htl] at hj; exact hj
    simp [hj']) (by simp) (by simpa using htl) inv0 (by rw [htl]; exact hlex) h
  refine wp_region_any hm ?_
  have := any_of_headM (Q' := Q) (g := l.toArray.size - n) (mono_of_list hT) (fun listed a' F w' hw hF hL => by
    have := wpAny_of_seq (md := .any) (Q' := Q) (l.drop n) n listed a' w' (fun j => by simp [List.getElem?_drop]) (by rw [hdl]; exact hL.1) (hL.2 w' hw hF)
    rwa [hdl] at this) _ _ _ _ ({ w with drawn := w.drawn + 1 }) ((Ext.refl w).drew) (fun _ => trivial) (fun _ _ _ _ h => h) H
  rw [htl, show n + (l.toArray.size - n) = l.toArray.size by omega] at this
  exact this

end
end Go.Mk

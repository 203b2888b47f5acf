/- Chapter 3, plain mathematics: calls as texts. -/
import Derived.Test.YtdmipnnfoolelabDoorMath3
import Derived.Lib.AtoiAll
import Derived.Lib.ItoaNum
namespace Go.Mk
open Go Go.RowKit Go.Lib

abbrev Bs := List UInt8

/-- Words between single signs; also such that are empty. -/
def splitB (sep : UInt8) : Bs → List Bs
  | [] => [[]]
  | b :: r => if b = sep then [] :: splitB sep r else ((b :: (splitB sep r).headD []) :: (splitB sep r).tail)
def joinB (sep : UInt8) : List Bs → Bs
  | [] => []
  | [w] => w
  | w :: v :: ws => w ++ sep :: joinB sep (v :: ws)

theorem splitB_ne (sep : UInt8) (s : Bs) : splitB sep s ≠ [] := by
  cases s with
  | nil => simp [splitB]
  | cons b r => unfold splitB; split <;> simp
theorem splitB_form (sep : UInt8) (s : Bs) : ∃ w ws, splitB sep s = w :: ws := by
  cases h : splitB sep s with
  | nil => exact absurd h (splitB_ne sep s)
  | cons w ws => exact ⟨w, ws, rfl⟩
theorem join_split (sep : UInt8) (s : Bs) : joinB sep (splitB sep s) = s := by
  induction s with
  | nil => rfl
  | cons b r ih =>
    obtain ⟨w, ws, h⟩ := splitB_form sep r
    unfold splitB
    by_cases hb : b = sep
    · rw [if_pos hb, h]
      rw [h] at ih
      show [] ++ sep :: joinB sep (w :: ws) = b :: r
      rw [ih, hb]; rfl
    · rw [if_neg hb, h]
      rw [h] at ih
      show joinB sep ((b :: w) :: ws) = b :: r
      rw [← ih]
      cases ws with
      | nil => rfl
      | cons v ws => rfl
theorem split_word (sep : UInt8) (w : Bs) (hw : sep ∉ w) (s : Bs) : splitB sep (w ++ s) = (w ++ (splitB sep s).headD []) :: (splitB sep s).tail := by
  induction w with
  | nil =>
    obtain ⟨v, vs, h⟩ := splitB_form sep s
    rw [List.nil_append, h]; rfl
  | cons b w ih =>
    simp only [List.mem_cons, not_or] at hw
    have ih := ih hw.2
    rw [List.cons_append, splitB, if_neg (fun e => hw.1 e.symm), ih]
    rfl
theorem split_one (sep : UInt8) (w : Bs) (hw : sep ∉ w) : splitB sep w = [w] := by
  have := split_word sep w hw []
  rw [List.append_nil] at this
  rw [this]
  simp [splitB]
theorem split_join (sep : UInt8) : ∀ (ws : List Bs), ws ≠ [] → (∀ w ∈ ws, sep ∉ w) → splitB sep (joinB sep ws) = ws
  | [], h, _ => absurd rfl h
  | [w], _, hw => split_one sep w (hw w (by simp))
  | w :: v :: ws, _, hw => by
    show splitB sep (w ++ sep :: joinB sep (v :: ws)) = _
    have ih := split_join sep (v :: ws) (by simp) (fun x hx => hw x (by simp at hx ⊢; exact .inr hx))
    rw [split_word sep w (hw w (by simp))]
    have e : splitB sep (sep :: joinB sep (v :: ws)) = [] :: splitB sep (joinB sep (v :: ws)) := by
      rw [splitB, if_pos rfl]
    rw [e, ih]
    simp

/-! ### Numbers -/

theorem digit_toNat {d : Nat} (h : d < 10) : (UInt8.ofNat (48 + d)).toNat = 48 + d := by
  simp; omega
theorem decDigits_digit (u : Nat) : ∀ b ∈ decDigits u, 48 ≤ b.toNat ∧ b.toNat ≤ 57 := by
  induction u using Nat.strongRecOn with
  | _ u ih =>
    intro b hb
    by_cases h : u < 10
    · rw [decDigits, dif_pos h, List.mem_singleton] at hb
      rw [hb, digit_toNat h]; omega
    · rw [decDigits, dif_neg h, List.mem_append, List.mem_singleton] at hb
      rcases hb with hb | hb
      · exact ih (u / 10) (by omega) b hb
      · rw [hb, digit_toNat (by omega)]; omega
theorem decDigits_ne (u : Nat) : decDigits u ≠ [] := by
  intro h
  have := decDigits_length u
  rw [h] at this
  have := nDigits_pos u
  simp at *
  omega
theorem parse_snoc : ∀ (l : Bs) (acc v : Nat) (c : UInt8), parseUint10 acc l = .ok v → parseUint10 acc (l ++ [c]) = parseUint10 v [c]
  | [], acc, v, c, h => by
    simp only [parseUint10] at h
    injection h with h
    rw [h]; rfl
  | b :: r, acc, v, c, h => by
    rw [List.cons_append]
    rw [parseUint10] at h ⊢
    by_cases h1 : 48 ≤ b.toNat ∧ b.toNat ≤ 57
    · rw [if_pos h1] at h ⊢
      by_cases h2 : 1844674407370955162 ≤ acc
      · rw [if_pos h2] at h; cases h
      · rw [if_neg h2] at h ⊢
        by_cases h3 : 18446744073709551616 ≤ acc * 10 + (b.toNat - 48)
        · rw [if_pos h3] at h; cases h
        · rw [if_neg h3] at h ⊢
          exact parse_snoc r _ v c h
    · rw [if_neg h1] at h; cases h
theorem parse_dec (u : Nat) (hu : u < 18446744073709551616) : parseUint10 0 (decDigits u) = .ok u := by
  induction u using Nat.strongRecOn with
  | _ u ih =>
    by_cases h : u < 10
    · rw [decDigits, dif_pos h]
      simp only [parseUint10]
      rw [digit_toNat h, if_pos (by omega), if_neg (by omega), if_neg (by omega)]
      congr 1
      omega
    · rw [decDigits, dif_neg h, parse_snoc _ _ _ _ (ih (u / 10) (by omega) (by omega))]
      simp only [parseUint10]
      rw [digit_toNat (by omega), if_pos (by omega), if_neg (by omega), if_neg (by omega)]
      congr 1
      omega
theorem mag_dec (u : Nat) (hu : u < 18446744073709551616) : parseMag (decDigits u) = .ok u := by
  unfold parseMag
  rw [if_neg (decDigits_ne u), parse_dec u hu]
theorem atoi_itoa (n : Int) (h0 : -9223372036854775808 ≤ n) (h1 : n ≤ 9223372036854775807) : atoiAll (itoa n) = .ok n := by
  unfold itoa
  by_cases hn : n < 0
  · rw [if_pos hn]
    simp only [atoiAll]
    have e : (45 : UInt8).toNat = 45 := rfl
    rw [if_pos (by simp), mag_dec n.natAbs (by omega)]
    simp only [e]
    rw [if_neg (by simp), if_neg (by omega), if_pos trivial]
    congr 1
    omega
  · rw [if_neg hn]
    cases hd : decDigits n.toNat with
    | nil => exact absurd hd (decDigits_ne _)
    | cons c r =>
      have hc := decDigits_digit n.toNat c (by rw [hd]; simp)
      simp only [atoiAll]
      rw [if_neg (by omega), ← hd, mag_dec n.toNat (by omega)]
      simp only []
      rw [if_neg (by omega), if_neg (by omega), if_neg (by omega)]
      congr 1
      omega
theorem itoa_sign (n : Int) : ∀ b ∈ itoa n, b.toNat = 45 ∨ 48 ≤ b.toNat ∧ b.toNat ≤ 57 := by
  intro b hb
  unfold itoa at hb
  split at hb
  · rw [List.mem_cons] at hb
    rcases hb with rfl | hb
    · exact .inl rfl
    · exact .inr (decDigits_digit _ b hb)
  · exact .inr (decDigits_digit _ b hb)

/-- A number, in tens, without a needless 0 or +. -/
def numOf (w : Bs) : Option Int := match atoiAll w with
  | .ok n => if itoa n = w then some n else none
  | _ => none
theorem numOf_itoa {n : Int} (h0 : -9223372036854775808 ≤ n) (h1 : n ≤ 9223372036854775807) : numOf (itoa n) = some n := by
  unfold numOf
  rw [atoi_itoa n h0 h1]
  simp
theorem itoa_numOf {w : Bs} {n : Int} (h : numOf w = some n) : itoa n = w := by
  unfold numOf at h
  split at h
  · split at h
    · rename_i m _ e
      simp at h
      rw [← h]; exact e
    · cases h
  · cases h
def numsOf : List Bs → Option (List Int)
  | [] => some []
  | w :: ws => match numOf w with
    | none => none
    | some n => match numsOf ws with
      | none => none
      | some ns => some (n :: ns)
theorem itoa_numsOf : ∀ {ws : List Bs} {ns : List Int}, numsOf ws = some ns → ns.map itoa = ws
  | [], ns, h => by simp [numsOf] at h; subst h; rfl
  | w :: ws, ns, h => by
    unfold numsOf at h
    cases h1 : numOf w with
    | none => rw [h1] at h; cases h
    | some n =>
      rw [h1] at h
      cases h2 : numsOf ws with
      | none => rw [h2] at h; cases h
      | some ms =>
        rw [h2] at h
        simp at h
        subst h
        rw [List.map_cons, itoa_numOf h1, itoa_numsOf h2]
theorem numsOf_itoa : ∀ (ns : List Int), (∀ n ∈ ns, -9223372036854775808 ≤ n ∧ n ≤ 9223372036854775807) → numsOf (ns.map itoa) = some ns
  | [], _ => rfl
  | n :: ns, h => by
    rw [List.map_cons, numsOf, numOf_itoa (h n (by simp)).1 (h n (by simp)).2, numsOf_itoa ns (fun m hm => h m (by simp [hm]))]

/-! ### Calls -/

def wordOf (k : Int) : Bs :=
  if k = 1 then [112, 117, 116] else if k = 2 then [103, 101, 116] else if k = 3 then [100, 114, 111, 112] else if k = 4 then [97, 100, 100] else if k = 5 then [99, 111, 117, 110, 116] else if k = 6 then [115, 119, 97, 112] else []
def kindOf (w : Bs) : Int :=
  if w = [112, 117, 116] then 1 else if w = [103, 101, 116] then 2 else if w = [100, 114, 111, 112] then 3 else if w = [97, 100, 100] then 4 else if w = [99, 111, 117, 110, 116] then 5 else if w = [115, 119, 97, 112] then 6 else 0
def argc (k : Int) : Nat := if k = 1 ∨ k = 4 ∨ k = 6 then 2 else if k = 2 ∨ k = 3 then 1 else 0
def argsOf (c : Cl) : List Int := if argc c.kind = 0 then [] else if argc c.kind = 1 then [c.name] else [c.name, if c.kind = 6 then c.other else c.n]
def mkCl (k : Int) (ns : List Int) : Cl := ⟨k, ns.getD 0 0, if k = 6 then ns.getD 1 0 else 0, if k = 6 then 0 else ns.getD 1 0⟩
def zeroCl : Cl := ⟨0, 0, 0, 0⟩
def callWs (c : Cl) : List Bs := wordOf c.kind :: (argsOf c).map itoa
def callText (c : Cl) : Bs := joinB 32 (callWs c)
def readW2 (w : Bs) (r : List Bs) : Cl × Int :=
  if kindOf w = 0 then (zeroCl, 1)
  else if r.length ≠ argc (kindOf w) then (zeroCl, 2)
  else match numsOf r with
    | none => (zeroCl, 2)
    | some ns => if wrongCl (mkCl (kindOf w) ns) ≠ 0 then (zeroCl, wrongCl (mkCl (kindOf w) ns)) else (mkCl (kindOf w) ns, 0)
def readWs (ws : List Bs) : Cl × Int := readW2 (ws.headD []) ws.tail
def readCl (s : Bs) : Cl × Int := readWs (splitB 32 s)

theorem kind_word {k : Int} (h : 1 ≤ k ∧ k ≤ 6) : kindOf (wordOf k) = k := by
  have : k = 1 ∨ k = 2 ∨ k = 3 ∨ k = 4 ∨ k = 5 ∨ k = 6 := by omega
  rcases this with rfl | rfl | rfl | rfl | rfl | rfl <;> rfl
theorem word_kind {w : Bs} (h : kindOf w ≠ 0) : wordOf (kindOf w) = w ∧ 1 ≤ kindOf w ∧ kindOf w ≤ 6 := by
  unfold kindOf at h ⊢
  repeat' split
  all_goals first | (rename_i e; subst e; exact ⟨rfl, by decide, by decide⟩) | simp_all
/-- What a right call's fields may be. -/
theorem wrongCl_parts {c : Cl} (h : wrongCl c = 0) : (1 ≤ c.kind ∧ c.kind ≤ 6) ∧ (c.kind = 5 → c.name = 0) ∧ (c.kind ≠ 5 → 1 ≤ c.name ∧ c.name ≤ 255) ∧ (c.kind = 6 → 1 ≤ c.other ∧ c.other ≤ 255) ∧ (c.kind ≠ 6 → c.other = 0) ∧
    (c.kind = 1 ∨ c.kind = 4 → -1073741824 ≤ c.n ∧ c.n ≤ 1073741824) ∧ (¬ (c.kind = 1 ∨ c.kind = 4) → c.n = 0) := by
  unfold wrongCl at h
  repeat' split at h
  all_goals first | exact absurd h (by decide) | skip
  refine ⟨by omega, ?_, ?_, ?_, ?_, ?_, ?_⟩ <;> omega
theorem mk_args {c : Cl} (h : wrongCl c = 0) : mkCl c.kind (argsOf c) = c := by
  obtain ⟨hk, h1, h2, h3, h4, h5, h6⟩ := wrongCl_parts h
  obtain ⟨k, a, o, n⟩ := c
  simp only at *
  have : k = 1 ∨ k = 2 ∨ k = 3 ∨ k = 4 ∨ k = 5 ∨ k = 6 := by omega
  rcases this with rfl | rfl | rfl | rfl | rfl | rfl <;> simp [mkCl, argsOf, argc] at * <;> omega
theorem args_mk {k : Int} {ns : List Int} (hk : 1 ≤ k ∧ k ≤ 6) (hl : ns.length = argc k) : argsOf (mkCl k ns) = ns := by
  have : k = 1 ∨ k = 2 ∨ k = 3 ∨ k = 4 ∨ k = 5 ∨ k = 6 := by omega
  rcases this with rfl | rfl | rfl | rfl | rfl | rfl
  all_goals
    rcases ns with _ | ⟨a, _ | ⟨b, _ | ⟨d, r⟩⟩⟩
    all_goals first | rfl | (exact absurd hl (by simp [argc]))

theorem length_args (c : Cl) : (argsOf c).length = argc c.kind := by
  unfold argsOf argc
  repeat' split
  all_goals simp_all
theorem args_fit {c : Cl} (h : wrongCl c = 0) : ∀ n ∈ argsOf c, -9223372036854775808 ≤ n ∧ n ≤ 9223372036854775807 := by
  obtain ⟨hk, h1, h2, h3, h4, h5, h6⟩ := wrongCl_parts h
  obtain ⟨k, a, o, n⟩ := c
  simp only at *
  have : k = 1 ∨ k = 2 ∨ k = 3 ∨ k = 4 ∨ k = 5 ∨ k = 6 := by omega
  rcases this with rfl | rfl | rfl | rfl | rfl | rfl <;> simp [argsOf, argc] at * <;> omega

/-- Written, and read again: words. -/
theorem readWs_call {c : Cl} (h : wrongCl c = 0) : readWs (callWs c) = (c, 0) := by
  obtain ⟨hk, _⟩ := wrongCl_parts h
  show readW2 (wordOf c.kind) ((argsOf c).map itoa) = (c, 0)
  unfold readW2
  rw [kind_word hk, if_neg (by omega), if_neg (by rw [List.length_map, length_args]; simp), numsOf_itoa _ (args_fit h)]
  simp only []
  rw [mk_args h, if_neg (by simp [h])]
theorem call_readWs {ws : List Bs} {c : Cl} (hne : ws ≠ []) (h : readWs ws = (c, 0)) : callWs c = ws ∧ wrongCl c = 0 := by
  cases ws with
  | nil => exact absurd rfl hne
  | cons w r =>
    have h : readW2 w r = (c, 0) := h
    unfold readW2 at h
    by_cases h0 : kindOf w = 0
    · rw [if_pos h0] at h; cases h
    rw [if_neg h0] at h
    by_cases h1 : r.length ≠ argc (kindOf w)
    · rw [if_pos h1] at h; cases h
    rw [if_neg h1] at h
    cases h2 : numsOf r with
    | none => rw [h2] at h; cases h
    | some ns =>
      rw [h2] at h
      simp only [] at h
      by_cases h3 : wrongCl (mkCl (kindOf w) ns) ≠ 0
      · rw [if_pos h3] at h
        injection h with _ h
        exact absurd h h3
      · rw [if_neg h3] at h
        injection h with h _
        subst h
        have h3' : wrongCl (mkCl (kindOf w) ns) = 0 := by simpa using h3
        obtain ⟨e1, e2⟩ := word_kind h0
        have hr := itoa_numsOf h2
        refine ⟨?_, h3'⟩
        have hl : ns.length = argc (kindOf w) := by rw [← hr] at h1; simpa using h1
        show wordOf (kindOf w) :: (argsOf (mkCl (kindOf w) ns)).map itoa = w :: r
        rw [e1, args_mk e2 hl, hr]

theorem word_plain (k : Int) : ∀ b ∈ wordOf k, 97 ≤ b.toNat := by
  unfold wordOf
  repeat' split
  all_goals decide
theorem callWs_plain (c : Cl) : ∀ w ∈ callWs c, ∀ b ∈ w, b.toNat = 45 ∨ 48 ≤ b.toNat := by
  intro w hw b hb
  unfold callWs at hw
  rw [List.mem_cons] at hw
  rcases hw with rfl | hw
  · have := word_plain _ b hb; omega
  · obtain ⟨n, _, rfl⟩ := List.mem_map.1 hw
    have := itoa_sign n b hb; omega
theorem no_sign {w : Bs} {sep : UInt8} (h : ∀ b ∈ w, b.toNat = 45 ∨ 48 ≤ b.toNat) (hs : sep.toNat ≤ 32) : sep ∉ w := fun hm => by
  have := h sep hm; omega
/-- Written, and read again. -/
theorem readCl_call {c : Cl} (h : wrongCl c = 0) : readCl (callText c) = (c, 0) := by
  unfold readCl callText
  rw [split_join 32 _ (by simp [callWs]) (fun w hw => no_sign (callWs_plain c w hw) (by decide)), readWs_call h]
theorem call_readCl {s : Bs} {c : Cl} (h : readCl s = (c, 0)) : callText c = s ∧ wrongCl c = 0 := by
  obtain ⟨h1, h2⟩ := call_readWs (splitB_ne 32 s) h
  refine ⟨?_, h2⟩
  unfold callText
  rw [h1, join_split]

/-! ### Rows of calls -/

def readLines : List Bs → List Cl × Int
  | [] => ([], 0)
  | s :: r => if (readCl s).2 ≠ 0 then ([], (readCl s).2) else if (readLines r).2 ≠ 0 then ([], (readLines r).2) else ((readCl s).1 :: (readLines r).1, 0)
def parseCl (s : Bs) : List Cl × Int :=
  if (readLines (splitB 10 s).dropLast).2 ≠ 0 then ([], (readLines (splitB 10 s).dropLast).2)
  else if (splitB 10 s).getLastD [] ≠ [] then ([], 8)
  else if 8 < (readLines (splitB 10 s).dropLast).1.length then ([], 5)
  else ((readLines (splitB 10 s).dropLast).1, 0)
def printCl (l : List Cl) : Bs := l.flatMap fun c => callText c ++ [10]

theorem no_lf (c : Cl) : (10 : UInt8) ∉ callText c := by
  intro h
  have hj : ∀ (ws : List Bs), (∀ w ∈ ws, ∀ b ∈ w, b.toNat = 45 ∨ 48 ≤ b.toNat) → ∀ b ∈ joinB 32 ws, b.toNat = 45 ∨ 48 ≤ b.toNat ∨ b.toNat = 32 := by
    intro ws
    induction ws with
    | nil => intro _ b hb; simp [joinB] at hb
    | cons w ws ih =>
      intro hw b hb
      cases ws with
      | nil =>
        have := hw w (by simp) b hb
        omega
      | cons v vs =>
        rw [joinB, List.mem_append, List.mem_cons] at hb
        rcases hb with hb | rfl | hb
        · have := hw w (by simp) b hb; omega
        · exact .inr (.inr rfl)
        · exact ih (fun x hx => hw x (by simp at hx ⊢; exact .inr hx)) b hb
  have := hj (callWs c) (callWs_plain c) 10 h
  have e : (10 : UInt8).toNat = 10 := rfl
  omega
theorem split_print : ∀ (l : List Cl), splitB 10 (printCl l) = l.map callText ++ [[]]
  | [] => rfl
  | c :: l => by
    have ih := split_print l
    show splitB 10 ((callText c ++ [10]) ++ printCl l) = _
    rw [List.append_assoc, split_word 10 _ (no_lf c)]
    have e : splitB 10 ([10] ++ printCl l) = [] :: splitB 10 (printCl l) := by
      show splitB 10 (10 :: printCl l) = _
      rw [splitB, if_pos rfl]
    rw [e, ih]
    simp
theorem readLines_call : ∀ (l : List Cl), (∀ c ∈ l, wrongCl c = 0) → readLines (l.map callText) = (l, 0)
  | [], _ => rfl
  | c :: l, h => by
    have ih := readLines_call l (fun d hd => h d (by simp [hd]))
    rw [List.map_cons, readLines, readCl_call (h c (by simp)), ih]
    simp
/-- Right calls' text is read as they, if they are no more than may be. -/
theorem parse_print {l : List Cl} (h : ∀ c ∈ l, wrongCl c = 0) : parseCl (printCl l) = if 8 < l.length then ([], 5) else (l, 0) := by
  unfold parseCl
  rw [split_print]
  have e1 : (l.map callText ++ [[]]).dropLast = l.map callText := by simp
  have e2 : (l.map callText ++ [[]]).getLastD [] = [] := by simp
  rw [e1, e2, readLines_call l h]
  simp
theorem call_readLines : ∀ {ls : List Bs} {l : List Cl}, readLines ls = (l, 0) → l.map callText = ls ∧ ∀ c ∈ l, wrongCl c = 0
  | [], l, h => by
    simp [readLines] at h
    subst h
    exact ⟨rfl, by simp⟩
  | s :: r, l, h => by
    rw [readLines] at h
    by_cases h1 : (readCl s).2 ≠ 0
    · rw [if_pos h1] at h
      injection h with _ h
      exact absurd h h1
    rw [if_neg h1] at h
    by_cases h2 : (readLines r).2 ≠ 0
    · rw [if_pos h2] at h
      injection h with _ h
      exact absurd h h2
    rw [if_neg h2] at h
    injection h with h _
    subst h
    have e1 : readCl s = ((readCl s).1, 0) := Prod.ext rfl (by simpa using h1)
    have e2 : readLines r = ((readLines r).1, 0) := Prod.ext rfl (by simpa using h2)
    obtain ⟨a1, a2⟩ := call_readCl e1
    obtain ⟨b1, b2⟩ := call_readLines e2
    refine ⟨by rw [List.map_cons, a1, b1], fun c hc => ?_⟩
    rw [List.mem_cons] at hc
    rcases hc with rfl | hc
    · exact a2
    · exact b2 c hc
theorem join_lf : ∀ (ls : List Bs), joinB 10 (ls ++ [[]]) = ls.flatMap fun s => s ++ [10]
  | [] => rfl
  | [s] => by simp [joinB]
  | s :: t :: ls => by
    have ih := join_lf (t :: ls)
    show s ++ 10 :: joinB 10 (t :: ls ++ [[]]) = _
    rw [ih]
    simp
/-- A text that is read is its calls'. -/
theorem print_parse {s : Bs} {l : List Cl} (h : parseCl s = (l, 0)) : printCl l = s ∧ l.length ≤ 8 ∧ ∀ c ∈ l, wrongCl c = 0 := by
  unfold parseCl at h
  by_cases h1 : (readLines (splitB 10 s).dropLast).2 ≠ 0
  · rw [if_pos h1] at h
    injection h with _ h
    exact absurd h h1
  rw [if_neg h1] at h
  by_cases h2 : (splitB 10 s).getLastD [] ≠ []
  · rw [if_pos h2] at h; cases h
  rw [if_neg h2] at h
  by_cases h3 : 8 < (readLines (splitB 10 s).dropLast).1.length
  · rw [if_pos h3] at h; cases h
  rw [if_neg h3] at h
  injection h with h _
  subst h
  have e1 : readLines (splitB 10 s).dropLast = ((readLines (splitB 10 s).dropLast).1, 0) := Prod.ext rfl (by simpa using h1)
  obtain ⟨a1, a2⟩ := call_readLines e1
  refine ⟨?_, by omega, a2⟩
  have e2 : (splitB 10 s).getLastD [] = [] := by simpa using h2
  have e3 : splitB 10 s = (splitB 10 s).dropLast ++ [[]] := by
    have := List.dropLast_concat_getLast (splitB_ne 10 s)
    rw [List.getLastD_eq_getLast?, List.getLast?_eq_some_getLast (splitB_ne 10 s)] at e2
    simp only [Option.getD_some] at e2
    rw [e2] at this
    exact this.symm
  have e4 := join_split 10 s
  rw [e3, join_lf, ← a1, List.flatMap_map] at e4
  exact e4
/-- One behind the other. -/
theorem parse_behind {a b : Bs} {l m : List Cl} (ha : parseCl a = (l, 0)) (hb : parseCl b = (m, 0)) : parseCl (a ++ b) = if 8 < l.length + m.length then ([], 5) else (l ++ m, 0) := by
  obtain ⟨a1, _, a3⟩ := print_parse ha
  obtain ⟨b1, _, b3⟩ := print_parse hb
  have e : a ++ b = printCl (l ++ m) := by rw [← a1, ← b1]; simp [printCl]
  rw [e, parse_print (fun c hc => by rw [List.mem_append] at hc; rcases hc with hc | hc; exact a3 c hc; exact b3 c hc), List.length_append]

end Go.Mk

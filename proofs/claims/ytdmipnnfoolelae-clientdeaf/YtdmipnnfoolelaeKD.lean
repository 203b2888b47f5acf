/- Texts of the proof, merged: Mem11. -/
import Derived.Test.YtdmipnnfoolelaeKC

namespace Go.Mk
open Go Go.RowKit

theorem run_append_fresh {P : Program} (w : World) (base : Nat) (t ty e : TypeId) (i : TypeInfo) (z : Value) (size bytes : Nat) (ht : P.underlying t = some (.slice e)) (hi : P.info? e = some i) (hz : i.zero = some z)
  (hsize : i.size = size) (hby : i.bytes = bytes) (hzs : z.cells.size = size) (hsz : 0 < size)
  (v : Value) (n : Nat) (xs : List Value) (hown : w.ownsRow base e size v n xs) (u : Value) (m : Nat) (news : List Value) (hu : Row w size u m news) (h1 : ∀ u ∈ news,u.oneCell' = true)
  (hbytes : (n + m) * bytes ≤ 140737488355328) (hpos : 0 < bytes) (hbase : base ≤ w.heap.size) :
  ∃ v' w',(Builtin.append_ #[t,t] ty #[v,u]).run P w = .ok v' w' ∧ w'.ownsRow base e size v' (n + m) (xs ++ news) ∧ w.grownBy w' v.ownBlock ∧ (v'.ownBlock = v.ownBlock ∨ ∀ g,v'.ownBlock = some g → w.heap.size ≤ g):=by
 obtain ⟨v',w',hrun,h2,h3⟩:=run_append_row (P:=P) w base t ty e i z size bytes ht hi hz hsize hby hzs hsz v n xs hown u m news hu h1 hbytes hpos hbase
 refine ⟨v',w',hrun,h2,h3,?_⟩
 have h63 : n + m ≤ maxLen:=by
  have : n + m ≤ (n + m) * bytes:=Nat.le_mul_of_pos_right _ hpos
  unfold maxLen
  omega
 rcases hown.2 with ⟨rfl,hn⟩ | ⟨g,cap,cur,rfl,hbg,hg,hnc,hcm,hcs,htake⟩
 ·-- onto nothing: whatever comes is new
  subst hn
  have hx : xs = []:=List.eq_nil_of_length_eq_zero (by simpa using hown.1)
  subst hx
  obtain ⟨v2,w2,hrun2,h4,_⟩:=run_append_row (P:=P) w w.heap.size t ty e i z size bytes ht hi hz hsize hby hzs hsz (.slice none 0 0) 0 [] (World.ownsRow_nil _ _ _ _) u m news hu h1 hbytes hpos (Nat.le_refl _)
  rw [hrun] at hrun2
  cases hrun2
  exact .inr fun g hgv=>(h4.lt g hgv).1
 ·obtain ⟨hl,ao,ucap,rfl,huc,hum,h0,hcell⟩:=hu
  cases ao with
  | none =>
   have hcap:=h0 rfl
   subst hcap
   have hm0 : m = 0:=by omega
   subst hm0
   have:=run_append_owned_none (P:=P) w base t ty e i size ht hi _ n xs hown
   rw [this] at hrun
   cases hrun
   exact .inl rfl
  | some ad =>
   have hsrc : ∀ j u,news[j]? = some u → w.cell? (ad.add j) = some u:=fun j u hj=>by
    obtain ⟨b,off,e',hc'⟩:=hcell j u hj
    simp only [Option.some.injEq] at e'
    subst e'
    rw [add_plain]; exact hc'
   by_cases hroom : n + m ≤ cap
   ·subst hsize
    have hr:=run_append_room (P:=P) w t ty e i ht hi g n cap cur hg ad m ucap news hl hsrc h1 hroom (by rw [hcs,hl,← Nat.add_mul]; exact Nat.mul_le_mul_right _ hroom)
    rw [hrun] at hr
    cases hr
    exact .inl rfl
   ·obtain ⟨v2,w2,hrun2,r1,_⟩:=run_append_arg_grows (P:=P) w t ty e i z size bytes ht hi hz hsize hby hzs hsz ⟨g,0,none⟩ n cap xs hown.1 (hown.cells (g:=g) rfl) ad m ucap news hl hsrc (by omega) h63 hbytes
    rw [hrun] at hrun2
    cases hrun2
    exact .inr fun g hgv=>(r1.lt g hgv).1

section
variable {P : Program} {ops : Array Oper} {rest : List Oper} {o : Oper} {a : Act} {w : World} {Q : Exit → Act → World → Prop}
theorem wpList_append_fresh (hgd : o.guard = none) (s x : Operand) (t : TypeId) (ho : o.op = .call { callee:=.builtin .append,args:=#[s,x],argTypes:=#[t,t] })
  (base : Nat) (e : TypeId) (i : TypeInfo) (z : Value) (size bytes : Nat) (ht : P.underlying t = some (.slice e)) (hi : P.info? e = some i) (hz : i.zero = some z)
  (hsize : i.size = size) (hby : i.bytes = bytes) (hzs : z.cells.size = size) (hsz : 0 < size)
  (v : Value) (n : Nat) (xs : List Value) (hs : a.eval s = v) (hown : w.ownsRow base e size v n xs) (u : Value) (hx : a.eval x = u) (m : Nat) (news : List Value) (hu : Row w size u m news) (h1 : ∀ u ∈ news,u.oneCell' = true)
  (hbytes : (n + m) * bytes ≤ 140737488355328) (hpos : 0 < bytes) (hbase : base ≤ w.heap.size)
  (h : ∀ v' w',w'.ownsRow base e size v' (n + m) (xs ++ news) → w.grownBy w' v.ownBlock → (v'.ownBlock = v.ownBlock ∨ ∀ g,v'.ownBlock = some g → w.heap.size ≤ g) → wpList P ops Q rest (a.put o.dst v') w') : wpList P ops Q (o :: rest) a w:=by
 refine wpList_plain hgd fun K hK=>?_
 obtain ⟨v',w',hrun,h2,h3,h4⟩:=run_append_fresh (P:=P) w base t o.type e i z size bytes ht hi hz hsize hby hzs hsz v n xs hown u m news hu h1 hbytes hpos hbase
 unfold Oper.wp
 simp [execOp,ho,resolve,invoke,builtin,hs,hx,hrun,Result.andThen]
 exact hK _ _ (h v' w' h2 h3 h4)
end
end Go.Mk

/- Texts of the proof, merged: Frame Frame5 Frame2 Frame3 Base D1 W1b D2 D3 D9 Box S1 S2 M1a M1b E1 E2 E3 E4 E5 E6 E7 E8 E9. -/
import Derived.Test.YtdmipnnfooleladRows
import Derived.Test.YtdmipnnfooleladKA
import Derived.Test.YtdmipnnfooleladKB
import Derived.Deep.QuietTactic
import Derived.BigQuiet
import Derived.BigRegion
import Derived.Handy
import Derived.Lib.Hide
import Derived.Laws.BitsAllLaws

namespace Go.Proofs.Ytdmipnnfoolelad
open Go.RowKit Go.Mk

theorem Try.own : ownKnob Try.prog.godebug = none:=by kernel_rfl
theorem Try.laidOut : laidOutB Try.prog = true:=by kernel_rfl
theorem Try.cellsInt : Try.prog.cellsOf 3 = 1:=by kernel_rfl
end Go.Proofs.Ytdmipnnfoolelad

namespace Go.Proofs.Ytdmipnnfoolelad
open Go.RowKit Go.Mk

theorem Try.cellsCalls : Try.prog.cellsOf 64 = 1:=by kernel_rfl
theorem Try.cellsStep : Try.prog.cellsOf 60 = 2:=by kernel_rfl
end Go.Proofs.Ytdmipnnfoolelad

namespace Go.Proofs.Ytdmipnnfoolelad
open Go.RowKit Go.Mk

theorem Try.cellsCall : Try.prog.cellsOf 33 = 4:=by kernel_rfl
end Go.Proofs.Ytdmipnnfoolelad

namespace Go.Proofs.Ytdmipnnfoolelad
open Go.RowKit Go.Mk

end Go.Proofs.Ytdmipnnfoolelad

namespace Go.Proofs.Ytdmipnnfoolelad
open Go.RowKit Go.Mk

theorem Try.infoInt : (Try.prog.info? 3).map (fun i=>(i.zero,i.size,i.bytes)) = some (some (.int .i64 0),1,8):=by kernel_rfl

theorem Try.infoInt1 : (Try.prog.info? 3).map (·.size) = some 1:=by kernel_rfl

theorem Try.infoWrite : (Try.prog.info? 72).map (fun i=>(i.zero,i.size,i.bytes)) = some (some (.agg #[.int .i64 0,.int .i64 0]),2,16):=by kernel_rfl

theorem ret_int {k : IntKind} {a b : Int} (h : a = b) : Ending.returned (.int k a) = .returned (.int k b):=by rw [h]

theorem ret_bool {a b : Bool} (h : a = b) : Ending.returned (.bool a) = .returned (.bool b):=by rw [h]

/-- A contract of a call that only makes memory beside a known answer. -/
theorem Calls.exts {P : Program} {f : FuncId} {args : Array Value} {w : World} {v : Value} {Q : Ending → World → Prop} (h : Calls P f args w fun e w'=>e = .returned v ∧ Ext w w') (k : ∀ w',Ext w w' → Q (.returned v) w') : Calls P f args w Q :=
 h.mono fun e w' ⟨he,hx⟩=>by rw [he]; exact k w' hx

theorem gives_exts {P : Program} {f : FuncId} {args : Array Value} {w : World} {v : Value} (h : Calls P f args w fun e w'=>e = .returned v ∧ Ext w w') : Gives P f args w (fun r _=>r = v) :=
 Calls.mono h fun _ _ ⟨he,hx⟩=>⟨v,he,hx,rfl⟩

theorem Try.infoWrite2 : (Try.prog.info? 72).map (fun i=>(i.zero,i.size,i.bytes)) = some (some (.agg #[.int .i64 0,.int .i64 0]),2,16):=by kernel_rfl

theorem block_ext {w w1 : World} {o : Obj} (e : Ext (w.alloc o) w1) : w1.heap[w.heap.size]? = some o:=by
 have:=e.block w.heap.size (by simp)
 rw [this]
 exact heap_alloc_new w o

theorem cell_block {w : World} {b i : Nat} {cs : Array Value} {t : TypeId} {u : Value} (h : w.heap[b]? = some (.cells cs t (0,0))) (hi : cs[i]? = some u) : w.cell? ⟨b,i,none⟩ = some u:=by
 simp [World.cell?,h,hi]

theorem frozen_block {w : World} {b i : Nat} {cs : Array Value} {t : TypeId} (h : w.heap[b]? = some (.cells cs t (0,0))) : w.frozen? ⟨b,i,none⟩ = false:=by
 simp [World.frozen?,h]

theorem box_of {wx w1 : World} {b : Nat} {t : TypeId} {u v : Value} (h : wx.heap[b]? = some (.cells #[u,v] t (0,0))) (e : Ext wx w1) :
  w1.cell? ⟨b,0,none⟩ = some u ∧ w1.cell? ⟨b,1,none⟩ = some v ∧ w1.frozen? ⟨b,0,none⟩ = false ∧ w1.frozen? ⟨b,1,none⟩ = false:=by
 have hb : b < wx.heap.size:=(Array.getElem?_eq_some_iff.1 h).1
 have h2 : w1.heap[b]? = some (.cells #[u,v] t (0,0)):=by rw [e.block b hb]; exact h
 exact ⟨cell_block h2 rfl,cell_block h2 rfl,frozen_block h2,frozen_block h2⟩

theorem grown_setCell (w : World) (b i : Nat) (x : Value) : w.grownBy (w.setCell ⟨b,i,none⟩ x) (some b) :=
 ⟨rfl,rfl,rfl,by simp,fun k _ hk=>Below.heap_setCell w _ x k (fun e=>hk (by simp [e]))⟩

theorem owns_setCell {w : World} {base e size n : Nat} {v : Value} {xs : List Value} (h : w.ownsRow base e size v n xs) {b : Nat} (hb : v.ownBlock ≠ some b) (i : Nat) (x : Value) : (w.setCell ⟨b,i,none⟩ x).ownsRow base e size v n xs :=
 h.kept (grown_setCell w b i x) (.inr hb)

/-- A row of one kind is no box of another. -/
theorem own_ne {w : World} {base e size n b : Nat} {v : Value} {xs : List Value} {cs : Array Value} {t : TypeId} (h : w.ownsRow base e size v n xs) (hb : w.heap[b]? = some (.cells cs t (0,0))) (hne : e ≠ t) : v.ownBlock ≠ some b:=by
 intro he
 rcases h.2 with ⟨rfl,_⟩ | ⟨k,cap,cur,rfl,_,hk,_⟩
 ·cases he
 ·have e2 : k = b:=by simpa [Value.ownBlock] using he
  subst e2
  rw [hb] at hk
  simp at hk
  exact hne hk.2.symm

theorem func_mk : ∀ (fn : Fn) (first cap : Array Value) (w : World),(Instr.makeFunc fn first cap).run Try.prog w = .ok (.func fn first cap) w:=fun _ _ _ _=>rfl

theorem cell_lt {w : World} {p : Addr} {v : Value} (h : w.cell? p = some v) : p.block < w.heap.size:=by
 by_cases hb : p.block < w.heap.size
 ·exact hb
 ·simp [World.cell?,Array.getElem?_eq_none (Nat.le_of_not_lt hb)] at h

/-- The slice u reads as l, and lies in memory of its own, from base on. -/
def Has (base : Nat) (w : World) (u : Value) (l : List (Int × Int)) : Prop:=∃ x m lo,w.ownsRow base 72 2 x m (cells2 lo) ∧ ∀ w2 : World,w2.ownsRow base 72 2 x m (cells2 lo) → Writes w2 u l

theorem owns_base {w : World} {b1 b2 e size n : Nat} {v : Value} {xs : List Value} (h : w.ownsRow b1 e size v n xs) (hle : b2 ≤ b1) : w.ownsRow b2 e size v n xs:=by
 obtain ⟨h1,h2⟩:=h
 refine ⟨h1,?_⟩
 rcases h2 with h | ⟨g,cap,cur,rfl,hb,hr⟩
 ·exact .inl h
 ·exact .inr ⟨g,cap,cur,rfl,Nat.le_trans hle hb,hr⟩

theorem Has.writes {base : Nat} {w : World} {u : Value} {l : List (Int × Int)} (h : Has base w u l) : Writes w u l:=by
 obtain ⟨x,m,lo,h1,h2⟩:=h
 exact h2 w h1

theorem Has.ext {base : Nat} {w w' : World} {u : Value} {l : List (Int × Int)} (h : Has base w u l) (he : Ext w w') : Has base w' u l:=by
 obtain ⟨x,m,lo,h1,h2⟩:=h
 exact ⟨x,m,lo,owns_ext h1 he,h2⟩

theorem Has.nil (base : Nat) (w : World) : Has base w (.slice none 0 0) []:=⟨.slice none 0 0,0,[],World.ownsRow_nil _ _ _ _,fun w2 _=>writes_nil w2⟩

theorem Has.set {base : Nat} {w : World} {u : Value} {l : List (Int × Int)} (h : Has base w u l) {b : Nat} (hb : b < base) (i : Nat) (y : Value) : Has base (w.setCell ⟨b,i,none⟩ y) u l:=by
 obtain ⟨x,m,lo,h1,h2⟩:=h
 exact ⟨x,m,lo,owns_setCell h1 (fun e=>by have:=(h1.lt b e).1; omega) i y,h2⟩

/-- .. at whatever lower bound. -/
theorem Has.low {b1 b2 : Nat} {w : World} {u : Value} {l : List (Int × Int)} (h : Has b1 w u l) (hle : b2 ≤ b1) : Has b2 w u l:=by
 obtain ⟨x,m,lo,h1,h2⟩:=h
 rcases h1.2 with ⟨rfl,rfl⟩ | ⟨g,cap,cur,rfl,hb,hr⟩
 ·exact ⟨_,_,lo,owns_base h1 hle,fun w2 h3=>h2 w2 ⟨h3.1,.inl ⟨rfl,rfl⟩⟩⟩
 ·refine ⟨_,_,lo,owns_base h1 hle,fun w2 h3=>h2 w2 ⟨h3.1,?_⟩⟩
  rcases h3.2 with ⟨e,_⟩ | ⟨g',cap',cur',e,hb',hr'⟩
  ·cases e
  ·have e2 : g = g' ∧ cap = cap':=by simpa using e
   obtain ⟨rfl,rfl⟩:=e2
   exact .inr ⟨g,cap,cur',rfl,hb,hr'⟩

/-- Rows of two kinds are two rows. -/
theorem own_types {w : World} {b1 b2 e1 e2 s1 s2 n m : Nat} {x y : Value} {xs ys : List Value} (h1 : w.ownsRow b1 e1 s1 x n xs) (h2 : w.ownsRow b2 e2 s2 y m ys) (hne : e1 ≠ e2) : x.ownBlock = none ∨ x.ownBlock ≠ y.ownBlock:=by
 rcases h2.2 with ⟨rfl,_⟩ | ⟨k,cap,cur,rfl,_,hk,_⟩
 ·cases hx : x.ownBlock with
  | none=>exact .inl rfl
  | some j=>exact .inr (by simp [Value.ownBlock])
 ·exact .inr (own_ne h1 hk hne)

theorem Has.grown {base : Nat} {w w' : World} {u s : Value} {l : List (Int × Int)} {b e n : Nat} {ys : List Value} (h : Has base w u l) (hs : w.ownsRow b e 2 s n ys) (hne : (72 : Nat) ≠ e) (hg : w.grownBy w' s.ownBlock) : Has base w' u l:=by
 obtain ⟨x,m,lo,h1,h2⟩:=h
 exact ⟨x,m,lo,h1.kept hg (own_types h1 hs hne),h2⟩

theorem wpM_norm {P : Program} {w0 : World} {ops : Array Oper} {Q : Act → (Tmp → World → Prop) → Prop} {l : List Oper} {ks : List Kind} {a : Act} {F : Tmp → World → Prop} (h : ∀ K : Act → Prop,(∀ a',wpM P w0 ops Q l ks a' F → K a') → K a) : wpM P w0 ops Q l ks a F:=h _ (fun _ h=>h)

theorem stop_at {p : Prop} (h : Hid p) : p:=h.out

theorem writes_lit1 {w : World} (o : Obj) (e : TypeId) (l : List (Int × Int)) (cs : Array Value) (n : Nat) (hc : cs.toList = cells2 l) (hn : l.length = n) (hm : n ≤ maxLen) : Writes ((w.alloc o).alloc (.cells cs e)) (.slice (some ⟨w.heap.size + 1,0,none⟩) n n) l:=by
 have:=writes_lit (w:=w.alloc o) e l cs n hc hn hm
 simpa using this

theorem monoHas (base : Nat) (l : List (Int × Int)) : ∀ v,MonoP (fun w=>Has base w v l):=fun _ _ _ he h=>Has.ext h he

end Go.Proofs.Ytdmipnnfoolelad

namespace Go.Proofs.Ytdmipnnfoolelad
open Go.RowKit Go.Mk

set_option maxHeartbeats 400000 in
theorem refFind_any (v : Value) (xs : List Int) (name : Int) (w : World) (hv : Ints w v xs) (hl : xs.length = 11) (h0 : 0 ≤ xs.getD 0 0) (h5 : xs.getD 0 0 ≤ 5) :
  Calls Try.prog 67 #[v,I name] w fun e w'=>e = .returned (I (findIn xs name (xs.getD 0 0).toNat 0)) ∧ w' = w:=by
 obtain ⟨ao,cap,rfl,h1,h2,h3⟩:=hv.form
 unfold maxLen at h2
 clear hv
 rw [hl] at *
 obtain ⟨b,off,rfl,hc0⟩:=h3 0 (by omega)
 have h3' : ∀ k,k < 11 → w.cell? ⟨b,off + k,none⟩ = some (I (xs.getD k 0)):=fun k hk=>by
  obtain ⟨b',off',he,hc⟩:=h3 k hk
  simp only [Option.some.injEq,Addr.mk.injEq,and_true] at he
  obtain ⟨rfl,rfl⟩:=he
  exact hc
 have H3 : Hid (∀ k,k < 11 → w.cell? ⟨b,off + k,none⟩ = some (I (xs.getD k 0))):=h3'
 clear h3 h3' hl
 generalize hn : xs.getD 0 0 = n at *
 have HN : Hid (xs.getD 0 0 = n):=hn
 clear hn
 simp only [Nat.add_zero] at hc0
 go_enter Try.func67,Try.ntmps67
 go_wp2
 go_loop [5] (fun i=>∃ k : Nat,(k : Int) ≤ n ∧ i = I (1 + 2 * k) ∧ findIn xs name n.toNat 0 = findIn xs name (n.toNat - k) k) (fun i=>20 - (intOf i).toNat)
 case atStart=>exact ⟨0,by omega,rfl,rfl⟩
 case round =>
  obtain ⟨k,hk,rfl,hf⟩:=hrel
  have HF : Hid (findIn xs name n.toNat 0 = findIn xs name (n.toNat - k) k):=hf
  clear hf
  by_cases hlt : (k : Int) < n
  ·have hc:=H3.out (1 + 2 * k) (by omega)
   go_wp2
   ·go_ret
    exact ⟨ret_int (by rw [HF.out,findIn_hit hlt (by rw [List.getD_eq_getElem?_getD]; assumption)]; omega),rfl⟩
   ·go_round
    case rel=>exact ⟨k + 1,by omega,by go_num,by rw [HF.out,findIn_miss hlt (by rw [List.getD_eq_getElem?_getD]; assumption)]⟩
    case measure=>simp [intOf]; omega
  ·go_wp2
   go_ret
   exact ⟨ret_int (by rw [HF.out,findIn_end (by omega)]),rfl⟩

end Go.Proofs.Ytdmipnnfoolelad

namespace Go.Proofs.Ytdmipnnfoolelad
open Go.RowKit Go.Mk

set_option maxHeartbeats 400000 in
theorem sameInts_any (u v : Value) (xs ys : List Int) (w : World) (hu : Ints w u xs) (hv : Ints w v ys) :
  Calls Try.prog 29 #[u,v] w fun e w'=>e = .returned (.bool (decide (xs = ys))) ∧ ∃ n,w' = w.drewN n:=by
 obtain ⟨ao,cap,rfl,h1,h2,h3⟩:=hu.form
 obtain ⟨bo,cap',rfl,g1,g2,g3⟩:=hv.form
 unfold maxLen at h2 g2
 clear hu hv
 by_cases hl : xs.length = ys.length
 ·have hne : (((xs.length : Int)) != (ys.length : Int)) = false:=by rw [bne_eq_false_iff_eq]; omega
  have HL : Hid (xs.length = ys.length):=hl
  clear hl
  go_enter Try.func29,Try.ntmps29
  go_wp2
  go_loopw [13] (fun i wr=>∃ k : Nat,k ≤ xs.length ∧ i = I k ∧ xs.take k = ys.take k ∧ ∃ n,wr = w.drewN n) (fun i _=>xs.length - (intOf i).toNat)
  case atStart=>exact ⟨0,by omega,rfl,rfl,0,rfl⟩
  case round =>
   obtain ⟨k,hk,rfl,hf,n,rfl⟩:=hrel
   have HF : Hid (xs.take k = ys.take k):=hf
   clear hf
   by_cases hlt : k < xs.length
   ·have hlt' : k < ys.length:=by have:=HL.out; omega
    obtain ⟨b,off,rfl,hc⟩:=h3 k hlt
    obtain ⟨b',off',rfl,hc'⟩:=g3 k hlt'
    clear h3 g3
    generalize hX : xs.getD k 0 = x at hc
    generalize hY : ys.getD k 0 = y at hc'
    have HX : Hid (xs[k]? = some x):=by unfold Hid; rw [← hX]; simp [hlt]
    have HY : Hid (ys[k]? = some y):=by unfold Hid; rw [← hY]; simp [hlt']
    clear hX hY
    have b1 : (0 : Int) ≤ (k : Int):=by omega
    have b2 : (k : Int) < (xs.length : Int):=by omega
    have b3 : (k : Int) < (ys.length : Int):=by omega
    by_cases hxy : x = y
    ·have hb : (x != y) = false:=by simp [hxy]
     have HXY : Hid (x = y):=hxy
     clear hxy
     go_wp2_with fail
     go_quiet (fail)
     go_wp2
     go_roundw
     case rel=>exact ⟨k + 1,by omega,by go_num,by rw [List.take_add_one,List.take_add_one,HF.out,HX.out,HY.out,HXY.out],_,rfl⟩
     case measure=>simp [intOf]; omega
    ·have hb : (x != y) = true:=by simpa using hxy
     have HXY : Hid (x ≠ y):=hxy
     clear hxy
     go_wp2_with fail
     go_quiet (fail)
     go_wp2
     go_ret
     refine ⟨ret_bool ?_,_,World.drewN_drewN _ _ _⟩
     symm
     rw [decide_eq_false_iff_not]
     intro e
     have h:=HX.out
     rw [e,HY.out] at h
     exact HXY.out (Option.some.inj h).symm
   ·go_wp2
    go_ret
    refine ⟨ret_bool ?_,_,rfl⟩
    symm
    rw [decide_eq_true_eq]
    have h:=HF.out
    rwa [List.take_of_length_le (by omega),List.take_of_length_le (by have:=HL.out; omega)] at h
 ·have hne : (((xs.length : Int)) != (ys.length : Int)) = true:=by rw [bne_iff_ne]; omega
  go_enter Try.func29,Try.ntmps29
  go_wp2
  go_ret
  refine ⟨ret_bool ?_,0,rfl⟩
  symm
  rw [decide_eq_false_iff_not]
  intro e
  exact hl (by rw [e])

end Go.Proofs.Ytdmipnnfoolelad

namespace Go.Proofs.Ytdmipnnfoolelad
open Go.RowKit Go.Mk

set_option maxHeartbeats 1000000 in
theorem refSet_own (v u : Value) (xs : List Int) (l : List (Int × Int)) (w : World) (hv : Ints w v xs) (hu : Writes w u l) (hr : xs.length * 8 ≤ 140737488355328) (hr2 : l.length * 16 ≤ 140737488355328) :
  Gives Try.prog 49 #[v,u] w fun r w'=>∃ n,w'.ownsRow w.heap.size 3 1 r n ((setAll xs l).map I):=by
 unfold Gives
 obtain ⟨i0,hi,hz0,hz1,hz2⟩:=info_parts Try.infoInt
 obtain ⟨ao,cap,rfl,h1,h2,h3⟩:=hv.form
 obtain ⟨bo,cap',rfl,g1,g2,g3⟩:=hu.form
 unfold maxLen at h2 g2
 clear hv hu
 go_enter Try.func49,Try.ntmps49
 go_wp2
 go_loopw [5,12] (fun o i wr=>∃ k : Nat,k ≤ xs.length ∧ i = I k ∧ wr.ownsRow w.heap.size 3 1 o k (((setAll xs l).take k).map I) ∧ Ext w wr) (fun _ i _=>xs.length - (intOf i).toNat)
 case atStart=>exact ⟨0,by omega,rfl,World.ownsRow_nil _ _ _ _,Ext.refl _⟩
 case round =>
  obtain ⟨k,hk,rfl,hout,he⟩:=hrel
  by_cases hlt : k < xs.length
  ·obtain ⟨b,off,rfl,hc⟩:=h3 k hlt
   have hd:=he.cell hc
   clear hc h3
   have HT : Hid ((setAll xs l).take (k + 1) = (setAll xs l).take k ++ [lastAt l k (xs.getD k 0)]):=setAll_take xs l k hlt
   generalize xs.getD k 0 = x at hd HT
   go_wp2
   go_loopw [7,19] (fun n j wr=>∃ m : Nat,m ≤ l.length ∧ j = I m ∧ n = I (lastAt (l.take m) k x) ∧ wr.ownsRow w.heap.size 3 1 u5 k (((setAll xs l).take k).map I) ∧ Ext w wr) (fun _ j _=>l.length - (intOf j).toNat)
   case atStart=>exact ⟨0,by omega,rfl,rfl,hout,he⟩
   case round =>
    obtain ⟨m,hm,rfl,rfl,hout',he'⟩:=hrel
    clear hout he hd
    by_cases hml : m < l.length
    ·obtain ⟨b',off',rfl,hc1,hc2⟩:=g3 m hml
     have hd1:=he'.cell hc1
     have hd2:=he'.cell hc2
     clear hc1 hc2 g3
     generalize hp : l.getD m (0,0) = p at hd1 hd2
     have HP : Hid (l[m]? = some p):=by unfold Hid; rw [← hp]; simp [hml]
     clear hp
     obtain ⟨at_,n⟩:=p
     have HL : Hid (lastAt (l.take (m + 1)) k x = if at_ = (k : Int) then n else lastAt (l.take m) k x):=by
      unfold Hid; rw [List.take_add_one,HP.out]; exact lastAt_snoc _ _ _ _
     generalize lastAt (l.take m) k x = y at HL
     simp only [] at hd1 hd2
     by_cases hat : at_ = (k : Int)
     ·have hb : (at_ == (k : Int)) = true:=by simp [hat]
      have HA : Hid (at_ = (k : Int)):=hat
      clear hat
      go_wp2
      go_roundw
      case rel=>exact ⟨m + 1,by omega,by go_num,by rw [HL.out,if_pos HA.out],hout'.alloc _,he'.alloc _⟩
      case measure=>simp [intOf]; omega
     ·have hb : (at_ == (k : Int)) = false:=by simpa using hat
      have HA : Hid (¬ at_ = (k : Int)):=hat
      clear hat
      go_wp2
      go_roundw
      case rel=>exact ⟨m + 1,by omega,by go_num,by rw [HL.out,if_neg HA.out],hout'.alloc _,he'.alloc _⟩
      case measure=>simp [intOf]; omega
    ·have e7 : lastAt (l.take m) k x = lastAt l k x:=by rw [List.take_of_length_le (by omega)]
     rw [e7]
     clear g3 e7
     generalize lastAt l k x = y at HT ⊢
     have hsz:=he'.size
     have hbl:=hout'.lt
     go_wp2_with (at_builtin; refine wpList_append_row _ rfl _ _ 25 rfl w.heap.size 3 i0 (.int .i64 0) 1 8 Try.underlying25 hi hz0 hz1 hz2 rfl (by decide) _ _ _ rfl (hout'.alloc _) _ rfl 1 [I y] (ints_lit (l:=[y]) _ _ 1 rfl rfl (by decide)) (mapI_one [y]) (by omega) (by decide) (by simp; omega) ?_; intro o' w3 ho hg)
     have he3 : Ext w w3:=(he'.alloc _).grown hg (fun k hk=>(hbl k hk).1)
     clear hg
     go_wp2
     go_roundw
     case rel =>
      refine ⟨k + 1,by omega,by go_num,?_,he3⟩
      rw [HT.out,List.map_append]
      exact ho
     case measure=>simp [intOf]; omega
  ·go_wp2
   go_ret
   rw [List.take_of_length_le (by rw [length_setAll]; omega)] at hout
   exact ⟨_,rfl,he,_,hout⟩

set_option maxHeartbeats 400000 in
theorem sameWrites_any (u v : Value) (xs ys : List (Int × Int)) (w : World) (hu : Writes w u xs) (hv : Writes w v ys) :
  Calls Try.prog 30 #[u,v] w fun e w'=>e = .returned (.bool (decide (xs = ys))) ∧ ∃ n,w' = w.drewN n:=by
 obtain ⟨ao,cap,rfl,h1,h2,h3⟩:=hu.form
 obtain ⟨bo,cap',rfl,g1,g2,g3⟩:=hv.form
 unfold maxLen at h2 g2
 clear hu hv
 by_cases hl : xs.length = ys.length
 ·have hne : (((xs.length : Int)) != (ys.length : Int)) = false:=by rw [bne_eq_false_iff_eq]; omega
  have HL : Hid (xs.length = ys.length):=hl
  clear hl
  go_enter Try.func30,Try.ntmps30
  go_wp2
  go_loopw [13] (fun i wr=>∃ k : Nat,k ≤ xs.length ∧ i = I k ∧ xs.take k = ys.take k ∧ ∃ n,wr = w.drewN n) (fun i _=>xs.length - (intOf i).toNat)
  case atStart=>exact ⟨0,by omega,rfl,rfl,0,rfl⟩
  case round =>
   obtain ⟨k,hk,rfl,hf,n,rfl⟩:=hrel
   have HF : Hid (xs.take k = ys.take k):=hf
   clear hf
   by_cases hlt : k < xs.length
   ·have hlt' : k < ys.length:=by have:=HL.out; omega
    obtain ⟨b,off,rfl,hc,hd⟩:=h3 k hlt
    obtain ⟨b',off',rfl,hc',hd'⟩:=g3 k hlt'
    clear h3 g3
    generalize hX : xs.getD k (0,0) = x at hc hd
    generalize hY : ys.getD k (0,0) = y at hc' hd'
    have HX : Hid (xs[k]? = some x):=by unfold Hid; rw [← hX]; simp [hlt]
    have HY : Hid (ys[k]? = some y):=by unfold Hid; rw [← hY]; simp [hlt']
    clear hX hY
    obtain ⟨x1,x2⟩:=x
    obtain ⟨y1,y2⟩:=y
    simp only [] at hc hd hc' hd'
    have b1 : (0 : Int) ≤ (k : Int):=by omega
    have b2 : (k : Int) < (xs.length : Int):=by omega
    have b3 : (k : Int) < (ys.length : Int):=by omega
    have hst : Try.prog.stoodInHeld 72 = false:=by kernel_rfl
    have hgd : Try.prog.eqGuardType Try.prog.depth 72 = false:=by kernel_rfl
    by_cases hx : x1 = y1
    ·have hb1 : (x1 == y1) = true:=by simp [hx]
     have HX1 : Hid (x1 = y1):=hx
     clear hx
     by_cases hy : x2 = y2
     ·have hb2 : (x2 == y2) = true:=by simp [hy]
      have HX2 : Hid (x2 = y2):=hy
      clear hy
      go_wp2_with fail
      go_quiet (fail)
      go_wp2
      go_roundw
      case rel=>exact ⟨k + 1,by omega,by go_num,by rw [List.take_add_one,List.take_add_one,HF.out,HX.out,HY.out,HX1.out,HX2.out],_,rfl⟩
      case measure=>simp [intOf]; omega
     ·have hb2 : (x2 == y2) = false:=by simpa using hy
      have HX2 : Hid (x2 ≠ y2):=hy
      clear hy
      go_wp2_with fail
      go_quiet (fail)
      go_wp2
      go_ret
      refine ⟨ret_bool ?_,_,World.drewN_drewN _ _ _⟩
      symm
      rw [decide_eq_false_iff_not]
      intro e
      have h:=HX.out
      rw [e,HY.out] at h
      simp only [Option.some.injEq,Prod.mk.injEq] at h
      exact HX2.out h.2.symm
    ·have hb1 : (x1 == y1) = false:=by simpa using hx
     have HX1 : Hid (x1 ≠ y1):=hx
     clear hx
     go_wp2_with fail
     go_quiet (fail)
     go_wp2
     go_ret
     refine ⟨ret_bool ?_,_,World.drewN_drewN _ _ _⟩
     symm
     rw [decide_eq_false_iff_not]
     intro e
     have h:=HX.out
     rw [e,HY.out] at h
     simp only [Option.some.injEq,Prod.mk.injEq] at h
     exact HX1.out h.1.symm
   ·go_wp2
    go_ret
    refine ⟨ret_bool ?_,_,rfl⟩
    symm
    rw [decide_eq_true_eq]
    have h:=HF.out
    rwa [List.take_of_length_le (by omega),List.take_of_length_le (by have:=HL.out; omega)] at h
 ·have hne : (((xs.length : Int)) != (ys.length : Int)) = true:=by rw [bne_iff_ne]; omega
  go_enter Try.func30,Try.ntmps30
  go_wp2
  go_ret
  refine ⟨ret_bool ?_,0,rfl⟩
  symm
  rw [decide_eq_false_iff_not]
  intro e
  exact hl (by rw [e])

end Go.Proofs.Ytdmipnnfoolelad

namespace Go.Proofs.Ytdmipnnfoolelad
open Go.RowKit Go.Mk

theorem sameInts_eq {u v : Value} {xs ys : List Int} {w : World} (e : xs = ys) (hu : Ints w u xs) (hv : Ints w v ys) : Gives Try.prog 29 #[u,v] w fun r _=>r = .bool true:=by
 have:=gives_drawn (sameInts_any u v xs ys w hu hv)
 rwa [decide_eq_true e] at this

theorem sameWrites_eq {u v : Value} {xs ys : List (Int × Int)} {w : World} (e : xs = ys) (hu : Writes w u xs) (hv : Writes w v ys) : Gives Try.prog 30 #[u,v] w fun r _=>r = .bool true:=by
 have:=gives_drawn (sameWrites_any u v xs ys w hu hv)
 rwa [decide_eq_true e] at this

end Go.Proofs.Ytdmipnnfoolelad

namespace Go.Proofs.Ytdmipnnfoolelad
open Go.RowKit Go.Mk

theorem setAll_one (xs : List Int) (l : List (Int × Int)) (p : Int × Int) : setAll (setAll xs l) [p] = setAll xs (l ++ [p]):=by
 rw [setAll_snoc]
 rfl

end Go.Proofs.Ytdmipnnfoolelad

namespace Go.Proofs.Ytdmipnnfoolelad
open Go.RowKit Go.Mk

/-- A box of four. -/
theorem box4 {w : World} {b : Nat} {t : TypeId} {u v x y : Value} (h : w.heap[b]? = some (.cells #[u,v,x,y] t (0,0))) :
  w.cell? ⟨b,0,none⟩ = some u ∧ w.cell? ⟨b,1,none⟩ = some v ∧ w.cell? ⟨b,2,none⟩ = some x ∧ w.cell? ⟨b,3,none⟩ = some y ∧ w.frozen? ⟨b,0,none⟩ = false ∧ w.frozen? ⟨b,1,none⟩ = false ∧ w.frozen? ⟨b,2,none⟩ = false ∧ w.frozen? ⟨b,3,none⟩ = false :=
 ⟨cell_block h rfl,cell_block h rfl,cell_block h rfl,cell_block h rfl,frozen_block h,frozen_block h,frozen_block h,frozen_block h⟩

theorem block_of {a w : World} {b : Nat} {o : Obj} (h : a.heap[b]? = some o) (e : Ext a w) : w.heap[b]? = some o:=by
 rw [e.block b (Array.getElem?_eq_some_iff.1 h).1]; exact h

/-- .. that has been written. -/
theorem set4 {w : World} {b : Nat} {t : TypeId} {p q r s : Value} (h : w.heap[b]? = some (.cells #[p,q,r,s] t (0,0))) (u v x y : Value) :
  ((((w.setCell ⟨b,0,none⟩ u).setCell ⟨b,1,none⟩ v).setCell ⟨b,2,none⟩ x).setCell ⟨b,3,none⟩ y).heap[b]? = some (.cells #[u,v,x,y] t (0,0)):=by
 have h1:=heap_setCell_same _ _ 0 _ _ u h
 have h2:=heap_setCell_same _ _ 1 _ _ v h1
 have h3:=heap_setCell_same _ _ 2 _ _ x h2
 have h4:=heap_setCell_same _ _ 3 _ _ y h3
 simpa using h4
theorem ext_set4 {a w : World} (h : Ext a w) {b : Nat} (hb : a.heap.size ≤ b) (u v x y : Value) : Ext a ((((w.setCell ⟨b,0,none⟩ u).setCell ⟨b,1,none⟩ v).setCell ⟨b,2,none⟩ x).setCell ⟨b,3,none⟩ y) :=
 (((h.setCell hb u).setCell hb v).setCell hb x).setCell hb y
theorem first_block {w w2 : World} {o o' : Obj} (e : Ext ((w.alloc o).alloc o') w2) : w2.heap[w.heap.size]? = some o:=by
 refine block_of ?_ e
 exact block_of (heap_alloc_new w o) ((Ext.refl _).alloc o')

theorem second_block {w w2 : World} {o o' : Obj} (e : Ext ((w.alloc o).alloc o') w2) : w2.heap[w.heap.size + 1]? = some o':=by
 refine block_of ?_ e
 have:=heap_alloc_new (w.alloc o) o'
 simpa using this

/-- A box of six. -/
theorem box6 {w : World} {b : Nat} {t : TypeId} {x0 x1 x2 x3 x4 x5 : Value} (h : w.heap[b]? = some (.cells #[x0,x1,x2,x3,x4,x5] t (0,0))) :
  (w.cell? ⟨b,0,none⟩ = some x0 ∧ w.cell? ⟨b,1,none⟩ = some x1 ∧ w.cell? ⟨b,2,none⟩ = some x2 ∧ w.cell? ⟨b,3,none⟩ = some x3 ∧ w.cell? ⟨b,4,none⟩ = some x4 ∧ w.cell? ⟨b,5,none⟩ = some x5) ∧
   w.frozen? ⟨b,0,none⟩ = false ∧ w.frozen? ⟨b,1,none⟩ = false ∧ w.frozen? ⟨b,2,none⟩ = false ∧ w.frozen? ⟨b,3,none⟩ = false ∧ w.frozen? ⟨b,4,none⟩ = false ∧ w.frozen? ⟨b,5,none⟩ = false :=
 ⟨⟨cell_block h rfl,cell_block h rfl,cell_block h rfl,cell_block h rfl,cell_block h rfl,cell_block h rfl⟩,frozen_block h,frozen_block h,frozen_block h,frozen_block h,frozen_block h,frozen_block h⟩

theorem set6 {w : World} {b : Nat} {t : TypeId} {p0 p1 p2 p3 p4 p5 : Value} (h : w.heap[b]? = some (.cells #[p0,p1,p2,p3,p4,p5] t (0,0))) (x0 x1 x2 x3 x4 x5 : Value) :
  ((((((w.setCell ⟨b,0,none⟩ x0).setCell ⟨b,1,none⟩ x1).setCell ⟨b,2,none⟩ x2).setCell ⟨b,3,none⟩ x3).setCell ⟨b,4,none⟩ x4).setCell ⟨b,5,none⟩ x5).heap[b]? = some (.cells #[x0,x1,x2,x3,x4,x5] t (0,0)):=by
 have h1:=heap_setCell_same _ _ 0 _ _ x0 h
 have h2:=heap_setCell_same _ _ 1 _ _ x1 h1
 have h3:=heap_setCell_same _ _ 2 _ _ x2 h2
 have h4:=heap_setCell_same _ _ 3 _ _ x3 h3
 have h5:=heap_setCell_same _ _ 4 _ _ x4 h4
 have h6:=heap_setCell_same _ _ 5 _ _ x5 h5
 simpa using h6

theorem ext_set6 {a w : World} (h : Ext a w) {b : Nat} (hb : a.heap.size ≤ b) (x0 x1 x2 x3 x4 x5 : Value) :
  Ext a ((((((w.setCell ⟨b,0,none⟩ x0).setCell ⟨b,1,none⟩ x1).setCell ⟨b,2,none⟩ x2).setCell ⟨b,3,none⟩ x3).setCell ⟨b,4,none⟩ x4).setCell ⟨b,5,none⟩ x5) :=
 (((((h.setCell hb x0).setCell hb x1).setCell hb x2).setCell hb x3).setCell hb x4).setCell hb x5

/-- A box of two. -/
theorem box2 {w : World} {b : Nat} {t : TypeId} {u v : Value} (h : w.heap[b]? = some (.cells #[u,v] t (0,0))) : w.cell? ⟨b,0,none⟩ = some u ∧ w.cell? ⟨b,1,none⟩ = some v ∧ w.frozen? ⟨b,0,none⟩ = false ∧ w.frozen? ⟨b,1,none⟩ = false :=
 ⟨cell_block h rfl,cell_block h rfl,frozen_block h,frozen_block h⟩
theorem block_set {w : World} {b b' i : Nat} {x : Value} {o : Obj} (h : w.heap[b]? = some o) (hne : b ≠ b') : (w.setCell ⟨b',i,none⟩ x).heap[b]? = some o:=by
 rw [Below.heap_setCell w _ x b hne]
 exact h

/-- A new box. -/
def BoxC (base : Nat) (t : TypeId) (cs : Array Value) (v : Value) (w : World) : Prop:=∃ b,v = .pointer (some ⟨b,0,none⟩) ∧ base ≤ b ∧ w.heap[b]? = some (.cells cs t (0,0))

theorem monoBoxC (base : Nat) (t : TypeId) (cs : Array Value) : ∀ v,MonoP (BoxC base t cs v):=fun _ _ _ he ⟨b,e,h1,h2⟩=>⟨b,e,h1,by rw [he.block b (Array.getElem?_eq_some_iff.1 h2).1]; exact h2⟩

theorem boxC_new {w : World} {base : Nat} {t : TypeId} {cs : Array Value} (h : base ≤ w.heap.size) : BoxC base t cs (.pointer (some ⟨w.heap.size,0,none⟩)) (w.alloc (.cells cs t)):=⟨_,rfl,h,heap_alloc_new _ _⟩

end Go.Proofs.Ytdmipnnfoolelad

namespace Go.Proofs.Ytdmipnnfoolelad
open Go.RowKit Go.Mk

set_option maxHeartbeats 1000000 in
theorem refSet2_keeps (v u : Value) (xs : List Int) (l : List (Int × Int)) (w : World) (A : Nat → Prop) (hv : Rd A (fun w=>Ints w v xs) w) (hu : Writes w u l) (hr : xs.length * 8 ≤ 140737488355328) :
  Keeps Try.prog 28 #[v,u] w A fun r w'=>Ints w' r (setAll xs l):=by
 unfold Keeps
 obtain ⟨bo,cap',rfl,g1,g2,g3⟩:=hu.form
 unfold maxLen at g2
 clear hu
 go_enter Try.func28,Try.ntmps28
 go_wp2
 go_loopw [0,9] (fun cv i wr=>∃ k : Nat,k ≤ l.length ∧ i = I k ∧ Rd (fun k=>A k ∨ w.heap.size ≤ k) (fun w=>Ints w cv (setAll xs (l.take k))) wr ∧ Ext w wr) (fun _ i _=>l.length - (intOf i).toNat)
 case atStart=>exact ⟨0,by omega,rfl,hv.widen (fun _ _ h=>.inl h),Ext.refl _⟩
 case round =>
  obtain ⟨k,hk,rfl,hc,he⟩:=hrel
  clear hv
  by_cases hlt : k < l.length
  ·obtain ⟨b,off,rfl,c1,c2⟩:=g3 k hlt
   replace c1:=he.cell c1
   replace c2:=he.cell c2
   have HT : Hid (setAll xs (l.take (k + 1)) = setAll (setAll xs (l.take k)) [l.getD k (0,0)]):=by
    unfold Hid
    rw [setAll_one,List.take_add_one,List.getElem?_eq_getElem hlt,List.getD_eq_getElem?_getD,List.getElem?_eq_getElem hlt]
    rfl
   generalize l.getD k (0,0) = p at *
   obtain ⟨p1,p2⟩:=p
   simp only [] at c1 c2
   have hlen : (setAll xs (l.take k)).length * 8 ≤ 140737488355328:=by rw [length_setAll]; exact hr
   generalize setAll xs (l.take k) = ys at *
   clear g3
   have hws:=he.size
   go_wp2_with fail
   refine (refSet_own u0 _ ys [(p1,p2)] _ (hc.out.ext (((Ext.refl wr).alloc _).alloc _)) (writes_lit1 _ _ [(p1,p2)] _ 1 rfl rfl (by decide)) hlen (by simp)).to fun r w2 he2 ⟨n2,ho2⟩=>?_
   have hr2:=(rd_ints ho2).widen (B:=fun k=>A k ∨ w.heap.size ≤ k) (fun j _ h=>.inr (by simp at h; omega))
   clear c1 c2 ho2
   go_wp2
   go_roundw
   case rel=>exact ⟨k + 1,by omega,by go_num,by rw [HT.out]; exact hr2,he.trans ((((Ext.refl wr).alloc _).alloc _).trans he2)⟩
   case measure=>simp [intOf]; omega
  ·go_wp2
   go_ret
   rw [List.take_of_length_le (by omega)] at hc
   exact ⟨_,rfl,he,hc⟩

set_option maxHeartbeats 1000000 in
theorem refBack_keeps (c u a p : Value) (s : St) (w : World) (A : Nat → Prop) (h : Rd A (fun w=>elSt w [c,u,a,p] s) w) (hr : s.cells.length * 8 ≤ 140737488355328) :
  Keeps Try.prog 16 #[.agg #[c,u,a,p]] w A (fun r w'=>Agg elSt (backSt s) r w'):=by
 unfold Keeps
 obtain ⟨_,_,_,_,e,h1,h2,h3,h4⟩:=rd_st h
 simp at e
 obtain ⟨rfl,rfl,rfl,rfl⟩:=e
 clear h
 obtain ⟨ua,uc,rfl⟩:=row_slice h2.out
 obtain ⟨aa,ac,rfl⟩:=rowOf_slice h3.out
 obtain ⟨pa,pc,rfl⟩:=rowOf_slice h4.out
 generalize hu : Value.slice ua s.undo.length uc = u at *
 generalize ha : Value.slice aa s.answers.length ac = a at *
 generalize hp : Value.slice pa s.past.length pc = p at *
 have HU:=Lib.hid hu
 have HAA:=Lib.hid ha
 have HP:=Lib.hid hp
 clear hu ha hp
 obtain ⟨B,hB⟩:=away A w.heap.size 2
 have HK:=Lib.hid hB
 clear hB
 have e0 : Ext w ((w.alloc (.cells #[c,u,a,p] 30)).alloc (.cells #[.slice none 0 0,.slice none 0 0,.slice none 0 0,.slice none 0 0] 30)):=((Ext.refl w).alloc _).alloc _
 have HB : Hid (∀ wx,Ext ((w.alloc (.cells #[c,u,a,p] 30)).alloc (.cells #[.slice none 0 0,.slice none 0 0,.slice none 0 0,.slice none 0 0] 30)) wx → wx.heap[w.heap.size]? = some (.cells #[c,u,a,p] 30 (0,0)) ∧ wx.heap[w.heap.size + 1]? = some (.cells #[.slice none 0 0,.slice none 0 0,.slice none 0 0,.slice none 0 0] 30 (0,0))):=fun wx hx=>⟨first_block hx,second_block hx⟩
 have hsz : ((w.alloc (.cells #[c,u,a,p] 30)).alloc (.cells #[.slice none 0 0,.slice none 0 0,.slice none 0 0,.slice none 0 0] 30)).heap.size = w.heap.size + 2:=by simp
 replace h1:=(h1.widen HK.out.1).ext e0
 replace h2:=(h2.widen HK.out.1).ext e0
 replace h3:=(h3.widen HK.out.1).ext e0
 replace h4:=(h4.widen HK.out.1).ext e0
 go_enter Try.func16,Try.ntmps16
 go_wp2_with fail
 generalize hw0 : (w.alloc (.cells #[c,u,a,p] 30)).alloc (.cells #[.slice none 0 0,.slice none 0 0,.slice none 0 0,.slice none 0 0] 30) = w0 at *
 clear hw0
 refine (refSet2_keeps c u _ _ w0 B h1 h2.out hr).to fun r w1 e1 hr1=>?_
 replace hr1:=hr1.widen (B:=B) (fun k _ h=>by rcases h with h | h; exact h; exact HK.out.2.1 k (by omega))
 replace h3:=h3.ext e1
 replace h4:=h4.ext e1
 obtain ⟨ra,rc,hrs⟩:=row_slice hr1.out
 subst hrs
 have hu:=HU.out
 have ha:=HAA.out
 have hp:=HP.out
 subst hu ha hp
 obtain ⟨b0,b1⟩:=HB.out w1 e1
 obtain ⟨x0,x1,x2,x3,f0,f1,f2,f3⟩:=box4 b0
 obtain ⟨y0,y1,y2,y3,g0,g1,g2,g3⟩:=box4 b1
 clear hsz
 have H1:=Lib.hid hr1
 have H3:=Lib.hid h3
 have H4:=Lib.hid h4
 clear hr1 h3 h4 h1 h2
 go_wp2_with fail
 clear x0 x1 x2 x3 f0 f1 f2 f3 y0 y1 y2 y3 g0 g1 g2 g3
 have b2:=set4 (block_set (i:=1) (x:=.slice none 0 0) (block_set (i:=0) (x:=.slice ra (setAll s.cells s.undo).length rc) b1 (Nat.succ_ne_self w.heap.size)) (Nat.succ_ne_self w.heap.size)) (.slice ra (setAll s.cells s.undo).length rc) (.slice none 0 0) (.slice aa s.answers.length ac) (.slice pa s.past.length pc)
 obtain ⟨q0,q1,q2,q3,-⟩:=box4 b2
 have n0 : ¬ B w.heap.size:=HK.out.2.2.1 _ (Nat.le_refl _) (by omega)
 have n1 : ¬ B (w.heap.size + 1):=HK.out.2.2.1 _ (by omega) (by omega)
 have m1 : Ext w w1:=e0.trans e1
 have m2:=ext_set4 ((m1.setCell (p:=⟨w.heap.size,0,none⟩) (Nat.le_refl _) (.slice ra (setAll s.cells s.undo).length rc)).setCell (p:=⟨w.heap.size,1,none⟩) (Nat.le_refl _) (.slice none 0 0)) (b:=w.heap.size + 1) (by omega) (.slice ra (setAll s.cells s.undo).length rc) (.slice none 0 0) (.slice aa s.answers.length ac) (.slice pa s.past.length pc)
 refine bodyPost_ret (by simp [results,Try.results16,go_sem,q0,q1,q2,q3]; rfl) rfl ?_
 refine ⟨_,rfl,m2,Rd.widen (A:=B) (agg_rd (st_rd (s:=backSt s) ?_ ?_ ?_ ?_)) (fun k _ h=>HK.out.2.2.2 k h)⟩
 ·exact (((((H1.out.set n0 _ _).set n0 _ _).set n1 _ _).set n1 _ _).set n1 _ _).set n1 _ _
 ·exact Rd.all fun w=>writes_nil w
 ·exact (((((H3.out.set n0 _ _).set n0 _ _).set n1 _ _).set n1 _ _).set n1 _ _).set n1 _ _
 ·exact (((((H4.out.set n0 _ _).set n0 _ _).set n1 _ _).set n1 _ _).set n1 _ _).set n1 _ _

end Go.Proofs.Ytdmipnnfoolelad

namespace Go.Proofs.Ytdmipnnfoolelad
open Go.RowKit Go.Mk

theorem third_block {w wx : World} {o1 o2 o3 : Obj} (h : Ext (((w.alloc o1).alloc o2).alloc o3) wx) : wx.heap[w.heap.size]? = some o1 ∧ wx.heap[w.heap.size + 1]? = some o2 ∧ wx.heap[w.heap.size + 1 + 1]? = some o3:=by
 have h2 : Ext ((w.alloc o1).alloc o2) wx:=((Ext.refl _).alloc o3).trans h
 refine ⟨first_block h2,second_block h2,?_⟩
 have:=block_ext h
 simpa using this

theorem write_out {s : St} {x y : Int} (h : ¬ (0 ≤ x ∧ x < (s.cells.length : Int))) : writeSt s (x,y) = s:=if_neg h
theorem write_in {s : St} {j : Nat} {y : Int} (h : j < s.cells.length) : writeSt s ((j : Int),y) = { s with cells:=setAll s.cells [((j : Int),y)],undo:=((j : Int),s.cells.getD j 0) :: s.undo }:=by
 unfold writeSt
 rw [if_pos ⟨by omega,by simp only []; omega⟩]
 rfl

set_option maxHeartbeats 1000000 in
theorem refWrite_out (c u a p : Value) (s : St) (x y : Int) (w : World) (A : Nat → Prop) (h : Rd A (fun w=>elSt w [c,u,a,p] s) w) (hx : ¬ (0 ≤ x ∧ x < (s.cells.length : Int))) :
  Keeps Try.prog 52 #[.agg #[c,u,a,p],.agg #[I x,I y]] w A (fun r w'=>Agg elSt (writeSt s (x,y)) r w'):=by
 rw [write_out hx]
 unfold Keeps
 obtain ⟨_,_,_,_,e,h1,h2,h3,h4⟩:=rd_st h
 simp at e
 obtain ⟨rfl,rfl,rfl,rfl⟩:=e
 clear h
 obtain ⟨ca,cc,rfl⟩:=row_slice h1.out
 obtain ⟨ua,uc,rfl⟩:=row_slice h2.out
 obtain ⟨aa,ac,rfl⟩:=rowOf_slice h3.out
 obtain ⟨pa,pc,rfl⟩:=rowOf_slice h4.out
 generalize hc : Value.slice ca s.cells.length cc = c at *
 generalize hu : Value.slice ua s.undo.length uc = u at *
 generalize ha : Value.slice aa s.answers.length ac = a at *
 generalize hp : Value.slice pa s.past.length pc = p at *
 have HC:=Lib.hid hc
 have HU:=Lib.hid hu
 have HAA:=Lib.hid ha
 have HP:=Lib.hid hp
 clear hc hu ha hp
 have H1:=Lib.hid h1
 have H2:=Lib.hid h2
 have H3:=Lib.hid h3
 have H4:=Lib.hid h4
 clear h1 h2 h3 h4
 generalize hn : s.cells.length = n at *
 clear hn
 have hc:=HC.out
 have hu:=HU.out
 have ha:=HAA.out
 have hp:=HP.out
 subst hc hu ha hp
 by_cases h0 : 0 ≤ x
 ·have hxn : ¬ (x < (n : Int)):=fun h=>hx ⟨h0,h⟩
  clear hx
  go_enter Try.func52,Try.ntmps52
  go_wp2
  refine bodyPost_ret (by simp [results,Try.results52,go_sem]; rfl) rfl ?_
  exact ⟨_,rfl,(((Ext.refl w).alloc _).alloc _).alloc _,((agg_rd (st_rd H1.out H2.out H3.out H4.out)).ext ((((Ext.refl w).alloc _).alloc _).alloc _)).widen (fun _ _ h=>.inl h)⟩
 ·clear hx
  go_enter Try.func52,Try.ntmps52
  go_wp2
  refine bodyPost_ret (by simp [results,Try.results52,go_sem]; rfl) rfl ?_
  exact ⟨_,rfl,(((Ext.refl w).alloc _).alloc _).alloc _,((agg_rd (st_rd H1.out H2.out H3.out H4.out)).ext ((((Ext.refl w).alloc _).alloc _).alloc _)).widen (fun _ _ h=>.inl h)⟩

set_option maxHeartbeats 1000000 in
theorem refWrite_in (c u a p : Value) (s : St) (j : Nat) (y : Int) (w : World) (A : Nat → Prop) (h : Rd A (fun w=>elSt w [c,u,a,p] s) w) (hj : j < s.cells.length) (hr : s.cells.length * 8 ≤ 140737488355328) (hr2 : (1 + s.undo.length) * 16 ≤ 140737488355328) :
  Keeps Try.prog 52 #[.agg #[c,u,a,p],.agg #[I j,I y]] w A (fun r w'=>Agg elSt (writeSt s ((j : Int),y)) r w'):=by
 rw [write_in hj]
 unfold Keeps
 obtain ⟨_,_,_,_,e,h1,h2,h3,h4⟩:=rd_st h
 simp at e
 obtain ⟨rfl,rfl,rfl,rfl⟩:=e
 clear h
 obtain ⟨ca,cc,rfl⟩:=row_slice h1.out
 obtain ⟨ua,uc,rfl⟩:=row_slice h2.out
 obtain ⟨aa,ac,rfl⟩:=rowOf_slice h3.out
 obtain ⟨pa,pc,rfl⟩:=rowOf_slice h4.out
 generalize hc : Value.slice ca s.cells.length cc = c at *
 generalize hu : Value.slice ua s.undo.length uc = u at *
 generalize ha : Value.slice aa s.answers.length ac = a at *
 generalize hp : Value.slice pa s.past.length pc = p at *
 have HC:=Lib.hid hc
 have HU:=Lib.hid hu
 have HAA:=Lib.hid ha
 have HP:=Lib.hid hp
 clear hc hu ha hp
 obtain ⟨B,hB⟩:=away A w.heap.size 3
 have HK:=Lib.hid hB
 clear hB
 have e0 : Ext w (((w.alloc (.cells #[c,u,a,p] 30)).alloc (.cells #[I j,I y] 72)).alloc (.cells #[.slice none 0 0,.slice none 0 0,.slice none 0 0,.slice none 0 0] 30)):=(((Ext.refl w).alloc _).alloc _).alloc _
 have HB:=Lib.hid (fun wx (h : Ext (((w.alloc (.cells #[c,u,a,p] 30)).alloc (.cells #[I j,I y] 72)).alloc (.cells #[.slice none 0 0,.slice none 0 0,.slice none 0 0,.slice none 0 0] 30)) wx)=>third_block h)
 have hsz : (((w.alloc (.cells #[c,u,a,p] 30)).alloc (.cells #[I j,I y] 72)).alloc (.cells #[.slice none 0 0,.slice none 0 0,.slice none 0 0,.slice none 0 0] 30)).heap.size = w.heap.size + 3:=by simp
 have HSZ:=Lib.hid hsz
 clear hsz
 replace h1:=(h1.widen HK.out.1).ext e0
 replace h2:=(h2.widen HK.out.1).ext e0
 replace h3:=(h3.widen HK.out.1).ext e0
 replace h4:=(h4.widen HK.out.1).ext e0
 have H1:=Lib.hid h1
 have H2:=Lib.hid h2
 have H3:=Lib.hid h3
 have H4:=Lib.hid h4
 clear h1 h2 h3 h4
 have HR:=Lib.hid hr
 have HR2:=Lib.hid hr2
 clear hr hr2
 have hc:=HC.out
 have hu:=HU.out
 have ha:=HAA.out
 have hp:=HP.out
 subst hc hu ha hp
 go_enter Try.func52,Try.ntmps52
 have hjn : (j : Int) < (s.cells.length : Int):=by omega
 have hj0 : (0 : Int) ≤ (j : Int):=by omega
 go_wp2_with fail
 generalize hw0 : ((w.alloc (.cells #[.slice ca s.cells.length cc,.slice ua s.undo.length uc,.slice aa s.answers.length ac,.slice pa s.past.length pc] 30)).alloc (.cells #[I j,I y] 72)).alloc (.cells #[.slice none 0 0,.slice none 0 0,.slice none 0 0,.slice none 0 0] 30) = w0 at *
 clear hw0
 obtain ⟨b0,b1,-⟩:=HB.out w0 (Ext.refl _)
 obtain ⟨x0,x1,x2,x3,-⟩:=box4 b0
 obtain ⟨y0,y1,-⟩:=box2 b1
 obtain ⟨_,cap',he,-,-,hcell⟩:=H1.out.out.form
 simp at he
 obtain ⟨rfl,rfl⟩:=he
 obtain ⟨cb,co,rfl,hcj⟩:=hcell j hj
 clear hcell b0 b1
 generalize hold : s.cells.getD j 0 = old at *
 obtain ⟨i0,hi,hz0,hz1,hz2⟩:=info_parts Try.infoWrite
 have HI:=Lib.hid hi
 clear hi
 have hbs : w.heap.size + 3 = w0.heap.size:=HSZ.out.symm
 refine wp_region_mono_tail 14 [none,none,none,none,none,none,none,none,none,some (.inr (FullOf w0.heap.size 72 2 1 (cells2 [((j : Int),old)]))),none,none,some (.inr fun v wx=>wx.ownsRow w0.heap.size 72 2 v (1 + s.undo.length) (cells2 (((j : Int),old) :: s.undo))),none] (by kernel_rfl) (by kernel_rfl) ?_ ?_
 ·exact ⟨trivial,trivial,trivial,trivial,trivial,trivial,trivial,trivial,trivial,monoFull _ _ _ _ _,trivial,trivial,monoOwns _ _ _ _ _,trivial,trivial⟩
 iterate 1 (refine wpM_p (fun K hK=>?_); go_simp; first | refine hK _ ?_ | refine ⟨(fun h=>by cases h),hK _ ?_⟩; clear hK K)
 refine wpM_q (I j) rfl (fun w' hw'=>by have q0:=hw'.cell y0; go_simp) ?_
 refine wpM_norm (fun K hK=>?_); go_simp; refine hK _ ?_; clear hK K
 iterate 1 (refine wpM_p (fun K hK=>?_); go_simp; first | refine hK _ ?_ | refine ⟨(fun h=>by cases h),hK _ ?_⟩; clear hK K)
 refine wpM_q (.slice (some ⟨cb,co,none⟩) s.cells.length cc) rfl (fun w' hw'=>by have q0:=hw'.cell x0; go_simp) ?_
 refine wpM_norm (fun K hK=>?_); go_simp; refine hK _ ?_; clear hK K
 iterate 1 (refine wpM_p (fun K hK=>?_); go_simp; first | refine hK _ ?_ | refine ⟨(fun h=>by cases h),hK _ ?_⟩; clear hK K)
 refine wpM_q (I j) rfl (fun w' hw'=>by have q0:=hw'.cell y0; go_simp) ?_
 refine wpM_norm (fun K hK=>?_); go_simp; refine hK _ ?_; clear hK K
 iterate 1 (refine wpM_p (fun K hK=>?_); go_simp; first | refine hK _ ?_ | refine ⟨(fun h=>by cases h),hK _ ?_⟩; clear hK K)
 refine wpM_q (I old) rfl (fun w' hw'=>by have q0:=hw'.cell hcj; go_simp) ?_
 refine wpM_norm (fun K hK=>?_); go_simp; refine hK _ ?_; clear hK K
 iterate 1 (refine wpM_p (fun K hK=>?_); go_simp; first | refine hK _ ?_ | refine ⟨(fun h=>by cases h),hK _ ?_⟩; clear hK K)
 refine wpM_l _ rfl (fun w' hw' hk=>?_) (fun v25=>?_)
 ·have hsz:=hw'.size
  clear hk
  unfold makes
  go_simp
  exact ⟨(Ext.refl _).alloc _,full_lit _ 1 hsz (by decide) rfl⟩
 refine wpM_norm (fun K hK=>?_); go_simp; refine hK _ ?_; clear hK K
 iterate 1 (refine wpM_p (fun K hK=>?_); go_simp; first | refine hK _ ?_ | refine ⟨(fun h=>by cases h),hK _ ?_⟩; clear hK K)
 refine wpM_q ((.slice ua s.undo.length uc)) rfl (fun w' hw'=>by have q0:=hw'.cell x1; go_simp) ?_
 refine wpM_norm (fun K hK=>?_); go_simp; refine hK _ ?_; clear hK K
 refine wpM_l _ rfl (fun w' hw' hk=>?_) (fun v28=>?_)
 ·have h25 : FullOf w0.heap.size 72 2 1 (cells2 [((j : Int),old)]) v25 w':=hk 25 (by decide)
  obtain ⟨v',w'',hrun,ho,he⟩:=run_append_full (P:=Try.prog) w' w0.heap.size 26 26 72 i0 _ 2 16 Try.underlying26 HI.out hz0 hz1 hz2 rfl (by decide) v25 1 _ h25 (.slice ua s.undo.length uc) s.undo.length _ (H2.out.out.ext hw') (cells2_one _) HR2.out (by decide) hw'.size
  exact makes_append rfl rfl rfl hrun he (by rw [← cells2_append] at ho; exact ho)
 refine wpM_norm (fun K hK=>?_); go_simp; refine hK _ ?_; clear hK K
 iterate 1 (refine wpM_p (fun K hK=>?_); go_simp; first | refine hK _ ?_ | refine ⟨(fun h=>by cases h),hK _ ?_⟩; clear hK K)
 refine wpM_nil ?_
 intro w1 e1 hX
 have ho1 : w1.ownsRow w0.heap.size 72 2 v28 (1 + s.undo.length) (cells2 (((j : Int),old) :: s.undo)):=hX 28
 clear hX x0 x1 x2 x3 y0 y1 hcj
 have hq1 : Rd B (fun w=>Writes w v28 (((j : Int),old) :: s.undo)) w1:=(rd_writes ho1).widen (fun k _ h=>HK.out.2.1 k (by omega))
 obtain ⟨va,vc,hvs⟩:=row_slice hq1.out
 subst hvs
 have HQ1:=Lib.hid hq1
 clear hq1 ho1
 obtain ⟨b0,b1,b2⟩:=HB.out w1 e1
 obtain ⟨x0,x1,x2,x3,f0,f1,f2,f3⟩:=box4 b0
 obtain ⟨y0,y1,-⟩:=box2 b1
 go_wp2_with fail
 clear x0 x1 x2 x3 f0 f1 f2 f3 y0 y1
 have n0 : ¬ B w.heap.size:=HK.out.2.2.1 _ (Nat.le_refl _) (by omega)
 have n2 : ¬ B (w.heap.size + 1 + 1):=HK.out.2.2.1 _ (by omega) (by omega)
 have m2 : Ext w (w1.setCell ⟨w.heap.size,1,none⟩ (.slice va (s.undo.length + 1) vc)):=(e0.trans e1).setCell (Nat.le_refl _) _
 have k1:=(H1.out.ext e1).set n0 1 (.slice va (s.undo.length + 1) vc)
 have k2:=HQ1.out.set n0 1 (.slice va (s.undo.length + 1) vc)
 have k3:=(H3.out.ext e1).set n0 1 (.slice va (s.undo.length + 1) vc)
 have k4:=(H4.out.ext e1).set n0 1 (.slice va (s.undo.length + 1) vc)
 have c0 : (w1.setCell ⟨w.heap.size,1,none⟩ (.slice va (s.undo.length + 1) vc)).heap[w.heap.size]? = some (.cells #[.slice (some ⟨cb,co,none⟩) s.cells.length cc,.slice va (s.undo.length + 1) vc,.slice aa s.answers.length ac,.slice pa s.past.length pc] 30 (0,0)):=by
  have:=heap_setCell_same _ _ 1 _ _ (.slice va (s.undo.length + 1) vc) b0
  simpa using this
 have c2:=block_set (i:=1) (x:=.slice va (s.undo.length + 1) vc) b2 (show w.heap.size + 1 + 1 ≠ w.heap.size by omega)
 have hs2 : (w1.setCell ⟨w.heap.size,1,none⟩ (.slice va (s.undo.length + 1) vc)).heap.size = w1.heap.size:=by simp
 have hle : w0.heap.size ≤ w1.heap.size:=e1.size
 have hlit:=writes_lit (w:=w1.setCell ⟨w.heap.size,1,none⟩ (.slice va (s.undo.length + 1) vc)) 72 [((j : Int),y)] #[I j,I y] 1 rfl rfl (by decide)
 rw [hs2] at hlit
 generalize hw2 : w1.setCell ⟨w.heap.size,1,none⟩ (.slice va (s.undo.length + 1) vc) = w2 at *
 clear hw2 b0 b1 b2 e1
 refine (refSet_own _ _ s.cells [((j : Int),y)] _ (k1.out.ext ((Ext.refl w2).alloc _)) hlit HR.out (by simp)).to fun r w4 e4 ⟨n4,ho4⟩=>?_
 have k5 : Rd B (fun w=>Ints w r (setAll s.cells [((j : Int),y)])) w4:=(rd_ints ho4).widen (fun k _ h=>HK.out.2.1 k (by simp at h; omega))
 replace e4:=((Ext.refl w2).alloc (.cells #[I j,I y] 72)).trans e4
 obtain ⟨ra,rc,hrs⟩:=row_slice k5.out
 subst hrs
 have K2:=Lib.hid (k2.ext e4)
 have K3:=Lib.hid (k3.ext e4)
 have K4:=Lib.hid (k4.ext e4)
 have K5:=Lib.hid k5
 have d0:=block_of c0 e4
 have d2:=block_of c2 e4
 have m4:=m2.trans e4
 clear k1 k2 k3 k4 k5 ho4 hlit hs2 c0 c2 m2 e4 hle
 obtain ⟨x0,x1,x2,x3,f0,f1,f2,f3⟩:=box4 d0
 obtain ⟨y0,y1,y2,y3,g0,g1,g2,g3⟩:=box4 d2
 go_wp2_with fail
 clear x0 x1 x2 x3 f0 f1 f2 f3 y0 y1 y2 y3 g0 g1 g2 g3
 have d3:=set4 (block_set (i:=0) (x:=.slice ra (setAll s.cells [((j : Int),y)]).length rc) d2 (show w.heap.size + 1 + 1 ≠ w.heap.size by omega)) (.slice ra (setAll s.cells [((j : Int),y)]).length rc) (.slice va (s.undo.length + 1) vc) (.slice aa s.answers.length ac) (.slice pa s.past.length pc)
 obtain ⟨q0,q1,q2,q3,-⟩:=box4 d3
 have m5:=ext_set4 (m4.setCell (p:=⟨w.heap.size,0,none⟩) (Nat.le_refl _) (.slice ra (setAll s.cells [((j : Int),y)]).length rc)) (b:=w.heap.size + 1 + 1) (by omega) (.slice ra (setAll s.cells [((j : Int),y)]).length rc) (.slice va (s.undo.length + 1) vc) (.slice aa s.answers.length ac) (.slice pa s.past.length pc)
 refine bodyPost_ret (by simp [results,Try.results52,go_sem,q0,q1,q2,q3]; rfl) rfl ?_
 rw [hold]
 refine ⟨_,rfl,m5,Rd.widen (A:=B) (agg_rd (st_rd (s:={ s with cells:=setAll s.cells [((j : Int),y)],undo:=((j : Int),old) :: s.undo }) ?_ ?_ ?_ ?_)) (fun k _ h=>HK.out.2.2.2 k h)⟩
 ·exact ((((K5.out.set n0 _ _).set n2 _ _).set n2 _ _).set n2 _ _).set n2 _ _
 ·exact ((((K2.out.set n0 _ _).set n2 _ _).set n2 _ _).set n2 _ _).set n2 _ _
 ·exact ((((K3.out.set n0 _ _).set n2 _ _).set n2 _ _).set n2 _ _).set n2 _ _
 ·exact ((((K4.out.set n0 _ _).set n2 _ _).set n2 _ _).set n2 _ _).set n2 _ _

theorem refWrite_keeps (c u a p : Value) (s : St) (x y : Int) (w : World) (A : Nat → Prop) (h : Rd A (fun w=>elSt w [c,u,a,p] s) w) (hr : s.cells.length * 8 ≤ 140737488355328) (hr2 : (1 + s.undo.length) * 16 ≤ 140737488355328) :
  Keeps Try.prog 52 #[.agg #[c,u,a,p],.agg #[I x,I y]] w A (fun r w'=>Agg elSt (writeSt s (x,y)) r w'):=by
 by_cases hx : 0 ≤ x ∧ x < (s.cells.length : Int)
 ·obtain ⟨j,rfl⟩ : ∃ j : Nat,x = (j : Int):=⟨x.toNat,by omega⟩
  exact refWrite_in c u a p s j y w A h (by omega) hr hr2
 ·exact refWrite_out c u a p s x y w A h hx

end Go.Proofs.Ytdmipnnfoolelad

namespace Go.Proofs.Ytdmipnnfoolelad
open Go.RowKit Go.Mk

end Go.Proofs.Ytdmipnnfoolelad

namespace Go.Proofs.Ytdmipnnfoolelad
open Go.RowKit Go.Mk

set_option maxHeartbeats 2000000 in
theorem refWrongCall_any (k a o n : Int) (w : World) : Calls Try.prog 32 #[.agg #[I k,I a,I o,I n]] w fun e w'=>e = .returned (I (wrongCl ⟨k,a,o,n⟩)) ∧ Ext w w':=by
 have hk2 : k < 1 ∨ 6 < k ∨ k = 1 ∨ k = 2 ∨ k = 3 ∨ k = 4 ∨ k = 5 ∨ k = 6:=by omega
 rcases hk2 with hk | hk | rfl | rfl | rfl | rfl | rfl | rfl
 all_goals
  go_enter Try.func32,Try.ntmps32
  go_wp2
 all_goals
  go_ret
  refine ⟨ret_int ?_,(Ext.refl w).alloc _⟩
  unfold wrongCl
  dsimp only
  repeat' split
  all_goals omega

end Go.Proofs.Ytdmipnnfoolelad

namespace Go.Proofs.Ytdmipnnfoolelad
open Go.RowKit Go.Mk

/-- A request and an answer as values. -/
abbrev RQ (r : Rq) : Value:=.agg #[I r.client,I r.token,I r.call.kind,I r.call.name,I r.call.other,I r.call.n]
abbrev AN (a : An) : Value:=.agg #[I a.client,I a.token,I a.reply.err,I a.reply.n]

set_option maxHeartbeats 400000 in
theorem who_any (c t : Int) (w : World) :
  Calls Try.prog 68 #[I c,I t] w fun e w'=>e = .returned (.bool (decide (0 ≤ c ∧ c < 3 ∧ 0 ≤ t ∧ t < 8))) ∧ w' = w:=by
 by_cases h0 : 0 ≤ c
 ·by_cases h1 : c < 3
  ·by_cases h2 : 0 ≤ t
   ·go_enter Try.func68,Try.ntmps68
    go_wp2
    go_ret
    exact ⟨ret_bool (by rw [Bool.eq_iff_iff]; simp; omega),rfl⟩
   ·go_enter Try.func68,Try.ntmps68
    go_wp2
    go_ret
    exact ⟨ret_bool (by rw [Bool.eq_iff_iff]; simp; omega),rfl⟩
  ·go_enter Try.func68,Try.ntmps68
   go_wp2
   go_ret
   exact ⟨ret_bool (by rw [Bool.eq_iff_iff]; simp; omega),rfl⟩
 ·go_enter Try.func68,Try.ntmps68
  go_wp2
  go_ret
  exact ⟨ret_bool (by rw [Bool.eq_iff_iff]; simp; omega),rfl⟩

end Go.Proofs.Ytdmipnnfoolelad

namespace Go.Proofs.Ytdmipnnfoolelad
open Go.RowKit Go.Mk

theorem wrongRq_no {c t k a o n : Int} (h : ¬ (0 ≤ c ∧ c < 3 ∧ 0 ≤ t ∧ t < 8)) : wrongRq ⟨c,t,⟨k,a,o,n⟩⟩ = 3:=if_pos h
theorem wrongRq_yes {c t k a o n : Int} (h : 0 ≤ c ∧ c < 3 ∧ 0 ≤ t ∧ t < 8) : wrongRq ⟨c,t,⟨k,a,o,n⟩⟩ = wrongCl ⟨k,a,o,n⟩:=if_neg (by simp [h])

set_option maxHeartbeats 400000 in
theorem refWrongRequest_any (c t k a o n : Int) (w : World) :
  Calls Try.prog 64 #[RQ ⟨c,t,⟨k,a,o,n⟩⟩] w fun e w'=>e = .returned (I (wrongRq ⟨c,t,⟨k,a,o,n⟩⟩)) ∧ Ext w w':=by
 by_cases hi : 0 ≤ c ∧ c < 3 ∧ 0 ≤ t ∧ t < 8
 ·have hi' : decide (0 ≤ c ∧ c < 3 ∧ 0 ≤ t ∧ t < 8) = true:=decide_eq_true hi
  rw [wrongRq_yes hi]
  clear hi
  go_enter Try.func64,Try.ntmps64
  go_wp2_with (go_at_call 68; refine Calls.same (who_any _ _ _) ?_)
  refine Calls.exts (refWrongCall_any k a o n _) (fun w1 e1=>?_)
  go_wp2
  go_ret
  exact ⟨rfl,((Ext.refl w).alloc _).trans e1⟩
 ·have hi' : decide (0 ≤ c ∧ c < 3 ∧ 0 ≤ t ∧ t < 8) = false:=decide_eq_false hi
  rw [wrongRq_no hi]
  clear hi
  go_enter Try.func64,Try.ntmps64
  go_wp2_with (go_at_call 68; refine Calls.same (who_any _ _ _) ?_)
  go_ret
  exact ⟨rfl,(Ext.refl w).alloc _⟩

theorem wrongAn_no {c t e n : Int} (h : ¬ (0 ≤ c ∧ c < 3 ∧ 0 ≤ t ∧ t < 8)) : wrongAn ⟨c,t,⟨e,n⟩⟩ = 3:=if_pos (.inl h)
theorem wrongAn_yes {c t e n : Int} (_h : 0 ≤ c ∧ c < 3 ∧ 0 ≤ t ∧ t < 8) (h2 : e < 0 ∨ 12 < e ∨ 1073741824 < n ∨ n < -1073741824 ∨ (0 < e ∧ n ≠ 0)) : wrongAn ⟨c,t,⟨e,n⟩⟩ = 3:=if_pos (.inr h2)
theorem wrongAn_ok {c t e n : Int} (h : 0 ≤ c ∧ c < 3 ∧ 0 ≤ t ∧ t < 8) (h2 : ¬ (e < 0 ∨ 12 < e ∨ 1073741824 < n ∨ n < -1073741824 ∨ (0 < e ∧ n ≠ 0))) : wrongAn ⟨c,t,⟨e,n⟩⟩ = 0:=if_neg (not_or.2 ⟨by simp [h],h2⟩)

set_option maxHeartbeats 1000000 in
theorem refWrongAnswer_any (c t e0 n : Int) (w : World) :
  Calls Try.prog 62 #[AN ⟨c,t,⟨e0,n⟩⟩] w fun e w'=>e = .returned (I (wrongAn ⟨c,t,⟨e0,n⟩⟩)) ∧ Ext w w':=by
 by_cases hi : 0 ≤ c ∧ c < 3 ∧ 0 ≤ t ∧ t < 8
 case neg =>
  have hi' : decide (0 ≤ c ∧ c < 3 ∧ 0 ≤ t ∧ t < 8) = false:=decide_eq_false hi
  rw [wrongAn_no hi]
  clear hi
  go_enter Try.func62,Try.ntmps62
  go_wp2_with (go_at_call 68; refine Calls.same (who_any _ _ _) ?_)
  go_ret
  exact ⟨rfl,(((Ext.refl w).alloc _).alloc _)⟩
 have hi' : decide (0 ≤ c ∧ c < 3 ∧ 0 ≤ t ∧ t < 8) = true:=decide_eq_true hi
 have h5 : e0 < 0 ∨ 12 < e0 ∨ 1073741824 < n ∨ n < -1073741824 ∨ (0 < e0 ∧ n ≠ 0) ∨ ¬ (e0 < 0 ∨ 12 < e0 ∨ 1073741824 < n ∨ n < -1073741824 ∨ (0 < e0 ∧ n ≠ 0)):=by omega
 have e1 : Ext w (((w.alloc (.cells #[I c,I t,I e0,I n] 77)).alloc (.cells #[I e0,I n] 38))):=(((Ext.refl w).alloc _).alloc _)
 have HI:=Lib.hid hi
 clear hi
 by_cases q1 : e0 < 0
 ·rw [wrongAn_yes HI.out (.inl q1)]
  go_enter Try.func62,Try.ntmps62
  go_wp2_with (go_at_call 68; refine Calls.same (who_any _ _ _) ?_)
  go_ret
  exact ⟨rfl,e1⟩
 by_cases q2 : 12 < e0
 ·rw [wrongAn_yes HI.out (.inr (.inl q2))]
  go_enter Try.func62,Try.ntmps62
  go_wp2_with (go_at_call 68; refine Calls.same (who_any _ _ _) ?_)
  go_ret
  exact ⟨rfl,e1⟩
 by_cases q3 : 1073741824 < n
 ·rw [wrongAn_yes HI.out (.inr (.inr (.inl q3)))]
  go_enter Try.func62,Try.ntmps62
  go_wp2_with (go_at_call 68; refine Calls.same (who_any _ _ _) ?_)
  go_ret
  exact ⟨rfl,e1⟩
 by_cases q4 : n < -1073741824
 ·rw [wrongAn_yes HI.out (.inr (.inr (.inr (.inl q4))))]
  go_enter Try.func62,Try.ntmps62
  go_wp2_with (go_at_call 68; refine Calls.same (who_any _ _ _) ?_)
  go_ret
  exact ⟨rfl,e1⟩
 by_cases q5 : 0 < e0
 ·by_cases q6 : n = 0
  ·rw [wrongAn_ok HI.out (by omega)]
   have q7 : (n != 0) = false:=by simp [q6]
   go_enter Try.func62,Try.ntmps62
   go_wp2_with (go_at_call 68; refine Calls.same (who_any _ _ _) ?_)
   go_ret
   exact ⟨rfl,(((Ext.refl w).alloc _).alloc _)⟩
  ·rw [wrongAn_yes HI.out (.inr (.inr (.inr (.inr ⟨q5,q6⟩))))]
   have q7 : (n != 0) = true:=by simpa using q6
   go_enter Try.func62,Try.ntmps62
   go_wp2_with (go_at_call 68; refine Calls.same (who_any _ _ _) ?_)
   go_ret
   exact ⟨rfl,e1⟩
 ·rw [wrongAn_ok HI.out (by omega)]
  go_enter Try.func62,Try.ntmps62
  go_wp2_with (go_at_call 68; refine Calls.same (who_any _ _ _) ?_)
  go_ret
  exact ⟨rfl,e1⟩

end Go.Proofs.Ytdmipnnfoolelad

namespace Go.Proofs.Ytdmipnnfoolelad
open Go.RowKit Go.Mk

theorem int32_wrap (n : Nat) (h : n < 4294967296) : wrap64 (wrap32 (n : Int)) = int32 n:=by
 unfold wrap64 wrap32 int32
 split <;> omega

set_option maxHeartbeats 1000000 in
theorem num_any (v : Value) (a b c d : UInt8) (w : World) (hv : Bytes w v [a,b,c,d]) :
  Calls Try.prog 61 #[v] w fun e w'=>e = .returned (I (numB [a,b,c,d])) ∧ Ext w w':=by
 obtain ⟨ao,cap,rfl,h1,h2,h3⟩:=hv.form
 unfold maxLen at h2
 clear hv
 obtain ⟨b0,off,rfl,c0⟩:=h3 0 (by simp)
 obtain ⟨_,_,e1,c1⟩:=h3 1 (by simp)
 obtain ⟨_,_,e2,c2⟩:=h3 2 (by simp)
 obtain ⟨_,_,e3,c3⟩:=h3 3 (by simp)
 simp only [Option.some.injEq,Addr.mk.injEq,and_true] at e1 e2 e3
 obtain ⟨rfl,rfl⟩:=e1
 obtain ⟨rfl,rfl⟩:=e2
 obtain ⟨rfl,rfl⟩:=e3
 clear h3
 simp only [Nat.add_zero,List.getD_cons_zero,List.getD_cons_succ,List.length_cons,List.length_nil] at *
 go_enter Try.func61,Try.ntmps61
 go_wp2
 go_loop [3,5] (fun u i=>(i = I 0 ∧ u = .int .u32 0) ∨ (i = I 1 ∧ u = .int .u32 (a.toNat : Int)) ∨ (i = I 2 ∧ u = .int .u32 ((a.toNat * 256 + b.toNat : Nat) : Int)) ∨ (i = I 3 ∧ u = .int .u32 (((a.toNat * 256 + b.toNat) * 256 + c.toNat : Nat) : Int)) ∨
   (i = I 4 ∧ u = .int .u32 ((((a.toNat * 256 + b.toNat) * 256 + c.toNat) * 256 + d.toNat : Nat) : Int))) (fun _ i=>4 - (intOf i).toNat)
 case atStart=>exact .inl ⟨rfl,rfl⟩
 case round =>
  have ha:=a.toNat_lt
  have hb:=b.toNat_lt
  have hc:=c.toNat_lt
  have hd:=d.toNat_lt
  rcases hrel with ⟨rfl,rfl⟩ | ⟨rfl,rfl⟩ | ⟨rfl,rfl⟩ | ⟨rfl,rfl⟩ | ⟨rfl,rfl⟩
  ·go_wp2
   go_round
   case rel=>exact .inr (.inl ⟨rfl,by simp⟩)
   case measure=>simp [intOf]
  ·go_wp2
   go_round
   case rel=>exact .inr (.inr (.inl ⟨rfl,congrArg (Value.int .u32) (by omega)⟩))
   case measure=>simp [intOf]
  ·go_wp2
   go_round
   case rel=>exact .inr (.inr (.inr (.inl ⟨rfl,congrArg (Value.int .u32) (by omega)⟩)))
   case measure=>simp [intOf]
  ·go_wp2
   go_round
   case rel=>exact .inr (.inr (.inr (.inr ⟨rfl,congrArg (Value.int .u32) (by omega)⟩)))
   case measure=>simp [intOf]
  ·go_wp2
   go_ret
   exact ⟨ret_int (Eq.trans (congrArg (fun x=>wrap64 (wrap32 x)) (by omega)) (int32_wrap (((a.toNat * 256 + b.toNat) * 256 + c.toNat) * 256 + d.toNat) (by omega))),Ext.refl w⟩

end Go.Proofs.Ytdmipnnfoolelad

namespace Go.Proofs.Ytdmipnnfoolelad
open Go.RowKit Go.Mk

theorem Try.infoByte : (Try.prog.info? 5).map (fun i=>(i.zero,i.size,i.bytes)) = some (some (.int .u8 0),1,1):=by kernel_rfl

theorem byteU (n : Int) : (Value.int .u8 (n % 256)) = U (Mk.byteOf n):=by
 unfold Mk.byteOf
 refine congrArg (Value.int .u8) ?_
 rw [UInt8.toNat_ofNat']
 omega

theorem four_cells (n : Int) : [Value.int .u8 (n % 4294967296 / 16777216),.int .u8 (n % 4294967296 / 65536 % 256),.int .u8 (n % 4294967296 / 256 % 256),.int .u8 (n % 256)] = (fourB n).map U:=by
 unfold fourB u32
 simp only [List.map_cons,List.map_nil,U,UInt8.toNat_ofNat']
 refine congr (congrArg List.cons (congrArg (Value.int .u8) ?_)) (congr (congrArg List.cons (congrArg (Value.int .u8) ?_)) (congr (congrArg List.cons (congrArg (Value.int .u8) ?_)) (congrArg (fun x=>[Value.int .u8 x]) ?_)))
 all_goals omega

set_option maxHeartbeats 1000000 in
theorem four_any (n : Int) (w : World) :
  Calls Try.prog 63 #[I n] w fun e w'=>e = .returned (.string ⟨(fourB n).toArray⟩) ∧ Ext w w':=by
 have hcv:=run_string_of (P:=Try.prog) (bytes_lit (w:=w) 5 (fourB n) #[.int .u8 (n % 4294967296 / 16777216),.int .u8 (n % 4294967296 / 65536 % 256),.int .u8 (n % 4294967296 / 256 % 256),.int .u8 (n % 256)] 4 (four_cells n) rfl (by decide)) Try.underlying80 Try.underlying5 Try.underlying9
 go_enter Try.func63,Try.ntmps63
 go_wp2
 go_ret
 exact ⟨rfl,(Ext.refl w).alloc _⟩

end Go.Proofs.Ytdmipnnfoolelad

namespace Go.Proofs.Ytdmipnnfoolelad
open Go.RowKit Go.Mk

end Go.Proofs.Ytdmipnnfoolelad

namespace Go.Proofs.Ytdmipnnfoolelad
open Go.RowKit Go.Mk

theorem wrapU (n : Int) : (Value.int .u8 (IntKind.u8.wrap n)) = U (Mk.byteOf n):=by
 rw [← byteU]
 refine congrArg (Value.int .u8) ?_
 unfold IntKind.wrap
 simp [IntKind.signed,IntKind.bits]

set_option maxHeartbeats 1000000 in
theorem RequestBytes_own (c t k a o n : Int) (w : World) :
  Gives Try.prog 51 #[RQ ⟨c,t,⟨k,a,o,n⟩⟩] w fun v w'=>BytesAt w.heap.size w' v (reqB ⟨c,t,⟨k,a,o,n⟩⟩):=by
 unfold Gives
 have e0 : Ext w (w.alloc (.cells #[I c,I t,I k,I a,I o,I n] 35)):=(Ext.refl w).alloc _
 have HB : Hid (∀ wx,Ext (w.alloc (.cells #[I c,I t,I k,I a,I o,I n] 35)) wx → wx.cell? ⟨w.heap.size,0,none⟩ = some (I c) ∧ wx.cell? ⟨w.heap.size,1,none⟩ = some (I t) ∧ wx.cell? ⟨w.heap.size,2,none⟩ = some (I k) ∧ wx.cell? ⟨w.heap.size,3,none⟩ = some (I a) ∧ wx.cell? ⟨w.heap.size,4,none⟩ = some (I o) ∧ wx.cell? ⟨w.heap.size,5,none⟩ = some (I n)):=fun wx hx =>
  ⟨hx.cell (by simp),hx.cell (by simp),hx.cell (by simp),hx.cell (by simp),hx.cell (by simp),hx.cell (by simp)⟩
 go_enter Try.func51,Try.ntmps51
 go_wp2_with fail
 generalize hw0 : w.alloc (.cells #[I c,I t,I k,I a,I o,I n] 35) = w0 at *
 have HW0:=Lib.hid hw0
 clear hw0
 obtain ⟨c0,c1,c2,c3,c4,c5⟩:=HB.out w0 (Ext.refl _)
 refine wp_region_mono [none,none,none,none,none,none,none,none,none,none,none,none,none,none,none,none,none,none,
  some (.inr fun v wx=>Bytes wx v [Mk.byteOf c,Mk.byteOf t,Mk.byteOf k,Mk.byteOf a,Mk.byteOf o]),some (.inl (.string ⟨#[Mk.byteOf c,Mk.byteOf t,Mk.byteOf k,Mk.byteOf a,Mk.byteOf o]⟩)),some (.inl (.string ⟨#[113,Mk.byteOf c,Mk.byteOf t,Mk.byteOf k,Mk.byteOf a,Mk.byteOf o]⟩)),none,none,none,
  some (.inl (.string ⟨(fourB n).toArray⟩)),some (.inl (.string ⟨(reqB ⟨c,t,⟨k,a,o,n⟩⟩).toArray⟩)),some (.inr fun v wx=>BytesAt w.heap.size wx v (reqB ⟨c,t,⟨k,a,o,n⟩⟩)),none] (by kernel_rfl) (by kernel_rfl) ?_ ?_
 ·exact ⟨trivial,trivial,trivial,trivial,trivial,trivial,trivial,trivial,trivial,trivial,trivial,trivial,trivial,trivial,trivial,trivial,trivial,trivial,monoBytes _,trivial,trivial,trivial,trivial,trivial,trivial,trivial,monoBytesAt _ _,trivial,trivial⟩
 iterate 1 (refine wpM_p (fun K hK=>?_); go_simp; refine hK _ ?_; clear hK K)
 refine wpM_q (I c) rfl (fun w' hw'=>by have q0:=hw'.cell c0; go_simp) ?_
 iterate 2 (refine wpM_p (fun K hK=>?_); go_simp; refine hK _ ?_; clear hK K)
 refine wpM_q (I t) rfl (fun w' hw'=>by have q0:=hw'.cell c1; go_simp) ?_
 iterate 3 (refine wpM_p (fun K hK=>?_); go_simp; refine hK _ ?_; clear hK K)
 refine wpM_q (I k) rfl (fun w' hw'=>by have q0:=hw'.cell c2; go_simp) ?_
 iterate 3 (refine wpM_p (fun K hK=>?_); go_simp; refine hK _ ?_; clear hK K)
 refine wpM_q (I a) rfl (fun w' hw'=>by have q0:=hw'.cell c3; go_simp) ?_
 iterate 3 (refine wpM_p (fun K hK=>?_); go_simp; refine hK _ ?_; clear hK K)
 refine wpM_q (I o) rfl (fun w' hw'=>by have q0:=hw'.cell c4; go_simp) ?_
 iterate 1 (refine wpM_p (fun K hK=>?_); go_simp; refine hK _ ?_; clear hK K)
 refine wpM_l _ rfl (fun w' hw' _=>?_) (fun v21=>?_)
 ·unfold makes
  go_simp
  exact ⟨(Ext.refl _).alloc _,bytes_lit _ _ _ 5 (by rw [wrapU,wrapU,wrapU,wrapU,wrapU]; rfl) rfl (by decide)⟩
 refine wpM_x _ rfl (fun w' hw' hk=>?_) ?_
 ·have h21 : Bytes w' v21 [Mk.byteOf c,Mk.byteOf t,Mk.byteOf k,Mk.byteOf a,Mk.byteOf o]:=hk 21 (by decide)
  have hcv:=run_string_of (P:=Try.prog) h21 Try.underlying80 Try.underlying5 Try.underlying9
  clear hk
  unfold makes
  go_simp
  exact ⟨Ext.refl _,rfl⟩
 refine wpM_norm (fun K hK=>?_); go_simp; refine hK _ ?_; clear hK K
 refine wpM_x _ rfl (fun w' hw' _=>?_) ?_
 ·have ha:=run_string_add_lists (P:=Try.prog) w' [113] [Mk.byteOf c,Mk.byteOf t,Mk.byteOf k,Mk.byteOf a,Mk.byteOf o] (by decide) (by simp)
  unfold makes
  go_simp
  exact ⟨Ext.refl _,rfl⟩
 refine wpM_norm (fun K hK=>?_); go_simp; refine hK _ ?_; clear hK K
 iterate 2 (refine wpM_p (fun K hK=>?_); go_simp; refine hK _ ?_; clear hK K)
 refine wpM_q (I n) rfl (fun w' hw'=>by have q0:=hw'.cell c5; go_simp) ?_
 refine wpM_x _ rfl (fun w' hw' _=>?_) ?_
 ·have hg:=gives_exts (four_any n w')
  unfold makes
  go_simp
  exact ⟨Ext.refl _,hg⟩
 refine wpM_norm (fun K hK=>?_); go_simp; refine hK _ ?_; clear hK K
 refine wpM_x _ rfl (fun w' hw' _=>?_) ?_
 ·have ha:=run_string_add_lists (P:=Try.prog) w' [113,Mk.byteOf c,Mk.byteOf t,Mk.byteOf k,Mk.byteOf a,Mk.byteOf o] (fourB n) (by simp) (by simp [fourB])
  unfold makes
  go_simp
  exact ⟨Ext.refl _,rfl⟩
 refine wpM_norm (fun K hK=>?_); go_simp; refine hK _ ?_; clear hK K
 refine wpM_l _ rfl (fun w' hw' _=>?_) (fun v29=>?_)
 ·have ha:=run_bytes_of_string (P:=Try.prog) w' 9 80 5 ⟨(reqB ⟨c,t,⟨k,a,o,n⟩⟩).toArray⟩ Try.underlying9 Try.underlying80 Try.underlying5
  unfold makes
  go_simp
  exact ⟨(Ext.refl _).drew.alloc _,_,_,_,_,rfl,Nat.le_trans (by rw [← HW0.out]; simp) hw'.size,bytes_of_string w' 5 (reqB ⟨c,t,⟨k,a,o,n⟩⟩) (show 10 ≤ maxLen by decide) _⟩
 iterate 1 (refine wpM_p (fun K hK=>?_); go_simp; refine hK _ ?_; clear hK K)
 refine wpM_nil ?_
 intro w4 he4 hX
 have hr : BytesAt w.heap.size w4 v29 (reqB ⟨c,t,⟨k,a,o,n⟩⟩):=hX 29
 clear hX c0 c1 c2 c3 c4 c5
 go_wp2
 go_ret
 exact ⟨v29,rfl,e0.trans he4,hr⟩

set_option maxHeartbeats 1000000 in
theorem AnswerBytes_own (c t x n : Int) (w : World) :
  Gives Try.prog 53 #[AN ⟨c,t,⟨x,n⟩⟩] w fun v w'=>BytesAt w.heap.size w' v (ansB ⟨c,t,⟨x,n⟩⟩):=by
 unfold Gives
 have e0 : Ext w (w.alloc (.cells #[I c,I t,I x,I n] 77)):=(Ext.refl w).alloc _
 have HB : Hid (∀ wx,Ext (w.alloc (.cells #[I c,I t,I x,I n] 77)) wx → wx.cell? ⟨w.heap.size,0,none⟩ = some (I c) ∧ wx.cell? ⟨w.heap.size,1,none⟩ = some (I t) ∧ wx.cell? ⟨w.heap.size,2,none⟩ = some (I x) ∧ wx.cell? ⟨w.heap.size,3,none⟩ = some (I n)):=fun wx hx =>
  ⟨hx.cell (by simp),hx.cell (by simp),hx.cell (by simp),hx.cell (by simp)⟩
 go_enter Try.func53,Try.ntmps53
 go_wp2_with fail
 generalize hw0 : w.alloc (.cells #[I c,I t,I x,I n] 77) = w0 at *
 have HW0:=Lib.hid hw0
 clear hw0
 obtain ⟨c0,c1,c2,c3⟩:=HB.out w0 (Ext.refl _)
 refine wp_region_mono [none,none,none,none,none,none,none,none,none,none,
  some (.inr fun v wx=>Bytes wx v [Mk.byteOf c,Mk.byteOf t,Mk.byteOf x]),some (.inl (.string ⟨#[Mk.byteOf c,Mk.byteOf t,Mk.byteOf x]⟩)),some (.inl (.string ⟨#[97,Mk.byteOf c,Mk.byteOf t,Mk.byteOf x]⟩)),none,none,none,
  some (.inl (.string ⟨(fourB n).toArray⟩)),some (.inl (.string ⟨(ansB ⟨c,t,⟨x,n⟩⟩).toArray⟩)),some (.inr fun v wx=>BytesAt w.heap.size wx v (ansB ⟨c,t,⟨x,n⟩⟩)),none] (by kernel_rfl) (by kernel_rfl) ?_ ?_
 ·exact ⟨trivial,trivial,trivial,trivial,trivial,trivial,trivial,trivial,trivial,trivial,monoBytes _,trivial,trivial,trivial,trivial,trivial,trivial,trivial,monoBytesAt _ _,trivial,trivial⟩
 iterate 1 (refine wpM_p (fun K hK=>?_); go_simp; refine hK _ ?_; clear hK K)
 refine wpM_q (I c) rfl (fun w' hw'=>by have q0:=hw'.cell c0; go_simp) ?_
 iterate 2 (refine wpM_p (fun K hK=>?_); go_simp; refine hK _ ?_; clear hK K)
 refine wpM_q (I t) rfl (fun w' hw'=>by have q0:=hw'.cell c1; go_simp) ?_
 iterate 3 (refine wpM_p (fun K hK=>?_); go_simp; refine hK _ ?_; clear hK K)
 refine wpM_q (I x) rfl (fun w' hw'=>by have q0:=hw'.cell c2; go_simp) ?_
 iterate 1 (refine wpM_p (fun K hK=>?_); go_simp; refine hK _ ?_; clear hK K)
 refine wpM_l _ rfl (fun w' hw' _=>?_) (fun v13=>?_)
 ·unfold makes
  go_simp
  exact ⟨(Ext.refl _).alloc _,bytes_lit _ _ _ 3 (by rw [wrapU,wrapU,wrapU]; rfl) rfl (by decide)⟩
 refine wpM_x _ rfl (fun w' hw' hk=>?_) ?_
 ·have h13 : Bytes w' v13 [Mk.byteOf c,Mk.byteOf t,Mk.byteOf x]:=hk 13 (by decide)
  have hcv:=run_string_of (P:=Try.prog) h13 Try.underlying80 Try.underlying5 Try.underlying9
  clear hk
  unfold makes
  go_simp
  exact ⟨Ext.refl _,rfl⟩
 refine wpM_norm (fun K hK=>?_); go_simp; refine hK _ ?_; clear hK K
 refine wpM_x _ rfl (fun w' hw' _=>?_) ?_
 ·have ha:=run_string_add_lists (P:=Try.prog) w' [97] [Mk.byteOf c,Mk.byteOf t,Mk.byteOf x] (by decide) (by simp)
  unfold makes
  go_simp
  exact ⟨Ext.refl _,rfl⟩
 refine wpM_norm (fun K hK=>?_); go_simp; refine hK _ ?_; clear hK K
 iterate 2 (refine wpM_p (fun K hK=>?_); go_simp; refine hK _ ?_; clear hK K)
 refine wpM_q (I n) rfl (fun w' hw'=>by have q0:=hw'.cell c3; go_simp) ?_
 refine wpM_x _ rfl (fun w' hw' _=>?_) ?_
 ·have hg:=gives_exts (four_any n w')
  unfold makes
  go_simp
  exact ⟨Ext.refl _,hg⟩
 refine wpM_norm (fun K hK=>?_); go_simp; refine hK _ ?_; clear hK K
 refine wpM_x _ rfl (fun w' hw' _=>?_) ?_
 ·have ha:=run_string_add_lists (P:=Try.prog) w' [97,Mk.byteOf c,Mk.byteOf t,Mk.byteOf x] (fourB n) (by simp) (by simp [fourB])
  unfold makes
  go_simp
  exact ⟨Ext.refl _,rfl⟩
 refine wpM_norm (fun K hK=>?_); go_simp; refine hK _ ?_; clear hK K
 refine wpM_l _ rfl (fun w' hw' _=>?_) (fun v21=>?_)
 ·have ha:=run_bytes_of_string (P:=Try.prog) w' 9 80 5 ⟨(ansB ⟨c,t,⟨x,n⟩⟩).toArray⟩ Try.underlying9 Try.underlying80 Try.underlying5
  unfold makes
  go_simp
  exact ⟨(Ext.refl _).drew.alloc _,_,_,_,_,rfl,Nat.le_trans (by rw [← HW0.out]; simp) hw'.size,bytes_of_string w' 5 (ansB ⟨c,t,⟨x,n⟩⟩) (show 8 ≤ maxLen by decide) _⟩
 iterate 1 (refine wpM_p (fun K hK=>?_); go_simp; refine hK _ ?_; clear hK K)
 refine wpM_nil ?_
 intro w4 he4 hX
 have hr : BytesAt w.heap.size w4 v21 (ansB ⟨c,t,⟨x,n⟩⟩):=hX 21
 clear hX c0 c1 c2 c3
 go_wp2
 go_ret
 exact ⟨v21,rfl,e0.trans he4,hr⟩

end Go.Proofs.Ytdmipnnfoolelad

namespace Go.Proofs.Ytdmipnnfoolelad
open Go.RowKit Go.Mk

theorem bytes10 {w : World} {v : Value} {b0 b1 b2 b3 b4 b5 b6 b7 b8 b9 : UInt8} (h : Bytes w v [b0,b1,b2,b3,b4,b5,b6,b7,b8,b9]) : ∃ b off cap,v = .slice (some ⟨b,off,none⟩) 10 cap ∧ 10 ≤ cap ∧ cap ≤ maxLen ∧
  (w.cell? ⟨b,off,none⟩ = some (U b0) ∧ w.cell? ⟨b,off + 1,none⟩ = some (U b1) ∧ w.cell? ⟨b,off + 2,none⟩ = some (U b2) ∧ w.cell? ⟨b,off + 3,none⟩ = some (U b3) ∧ w.cell? ⟨b,off + 4,none⟩ = some (U b4) ∧ w.cell? ⟨b,off + 5,none⟩ = some (U b5)) ∧
   Bytes w (.slice (some ⟨b,off + 6,none⟩) 4 (cap - 6)) [b6,b7,b8,b9]:=by
 obtain ⟨ao,cap,rfl,h1,h2,h3⟩:=h.form
 obtain ⟨b,off,rfl,c0⟩:=h3 0 (by simp)
 refine ⟨b,off,cap,rfl,h1,h2,⟨c0,?_,?_,?_,?_,?_⟩,h.drop 6 (by simp)⟩
 ·obtain ⟨_,_,e1,c1⟩:=h3 1 (by simp); cases e1; exact c1
 ·obtain ⟨_,_,e1,c1⟩:=h3 2 (by simp); cases e1; exact c1
 ·obtain ⟨_,_,e1,c1⟩:=h3 3 (by simp); cases e1; exact c1
 ·obtain ⟨_,_,e1,c1⟩:=h3 4 (by simp); cases e1; exact c1
 ·obtain ⟨_,_,e1,c1⟩:=h3 5 (by simp); cases e1; exact c1

theorem bytes8 {w : World} {v : Value} {b0 b1 b2 b3 b4 b5 b6 b7 : UInt8} (h : Bytes w v [b0,b1,b2,b3,b4,b5,b6,b7]) : ∃ b off cap,v = .slice (some ⟨b,off,none⟩) 8 cap ∧ 8 ≤ cap ∧ cap ≤ maxLen ∧
  (w.cell? ⟨b,off,none⟩ = some (U b0) ∧ w.cell? ⟨b,off + 1,none⟩ = some (U b1) ∧ w.cell? ⟨b,off + 2,none⟩ = some (U b2) ∧ w.cell? ⟨b,off + 3,none⟩ = some (U b3)) ∧
   Bytes w (.slice (some ⟨b,off + 4,none⟩) 4 (cap - 4)) [b4,b5,b6,b7]:=by
 obtain ⟨ao,cap,rfl,h1,h2,h3⟩:=h.form
 obtain ⟨b,off,rfl,c0⟩:=h3 0 (by simp)
 refine ⟨b,off,cap,rfl,h1,h2,⟨c0,?_,?_,?_⟩,h.drop 4 (by simp)⟩
 ·obtain ⟨_,_,e1,c1⟩:=h3 1 (by simp); cases e1; exact c1
 ·obtain ⟨_,_,e1,c1⟩:=h3 2 (by simp); cases e1; exact c1
 ·obtain ⟨_,_,e1,c1⟩:=h3 3 (by simp); cases e1; exact c1

theorem wrap_byte (x : UInt8) : IntKind.i64.wrap (x.toNat : Int) = (x.toNat : Int):=by
 have:=x.toNat_lt
 unfold IntKind.wrap
 simp [IntKind.signed,IntKind.bits]
 omega

theorem readRq_form {l : List UInt8} (h : ¬ (l.length = 10 ∧ l.getD 0 0 = 113)) : readRq l = (zeroRq,2):=if_pos (by by_cases h1 : l.length = 10 <;> simp_all)
theorem readAn_form {l : List UInt8} (h : ¬ (l.length = 8 ∧ l.getD 0 0 = 97)) : readAn l = (zeroAn,2):=if_pos (by by_cases h1 : l.length = 8 <;> simp_all)

theorem ten_of {l : List UInt8} (h : l.length = 10 ∧ l.getD 0 0 = 113) : ∃ b1 b2 b3 b4 b5 b6 b7 b8 b9,l = [113,b1,b2,b3,b4,b5,b6,b7,b8,b9]:=by
 obtain ⟨h1,h2⟩:=h
 match l,h1,h2 with
 | [b0,b1,b2,b3,b4,b5,b6,b7,b8,b9],_,h0 =>
  have h0 : b0 = 113:=h0
  subst h0
  exact ⟨_,_,_,_,_,_,_,_,_,rfl⟩
theorem eight_of {l : List UInt8} (h : l.length = 8 ∧ l.getD 0 0 = 97) : ∃ b1 b2 b3 b4 b5 b6 b7,l = [97,b1,b2,b3,b4,b5,b6,b7]:=by
 obtain ⟨h1,h2⟩:=h
 match l,h1,h2 with
 | [b0,b1,b2,b3,b4,b5,b6,b7],_,h0 =>
  have h0 : b0 = 97:=h0
  subst h0
  exact ⟨_,_,_,_,_,_,_,rfl⟩

end Go.Proofs.Ytdmipnnfoolelad

namespace Go.Proofs.Ytdmipnnfoolelad
open Go.RowKit Go.Mk

end Go.Proofs.Ytdmipnnfoolelad

namespace Go.Proofs.Ytdmipnnfoolelad
open Go.RowKit Go.Mk

set_option maxHeartbeats 1000000 in
theorem refReadRequest_form (v : Value) (l : List UInt8) (w : World) (hv : Bytes w v l) (hf : ¬ (l.length = 10 ∧ l.getD 0 0 = 113)) :
  Calls Try.prog 55 #[v] w fun e w'=>e = .returned (.tuple #[RQ (readRq l).1,I (readRq l).2]) ∧ Ext w w':=by
 rw [readRq_form hf]
 obtain ⟨ao,cap,rfl,h1,h2,h3⟩:=hv.form
 unfold maxLen at h2
 clear hv
 by_cases hl : l.length = 10
 ·obtain ⟨b,off,rfl,hc⟩:=h3 0 (by omega)
  have hm : ¬ l.getD 0 0 = 113:=fun h=>hf ⟨hl,h⟩
  clear h3 hf
  simp only [Nat.add_zero] at hc
  rw [hl] at h1 ⊢
  generalize l.getD 0 0 = x at *
  have hu : ((x.toNat : Int) != 113) = true:=by
   rw [bne_iff_ne]
   intro h
   exact hm (UInt8.toNat_inj.1 (show x.toNat = 113 by omega))
  replace hc:=((Ext.refl w).alloc (.cells #[I 0,I 0,I 0,I 0,I 0,I 0] 35)).cell hc
  clear hm hl
  go_enter Try.func55,Try.ntmps55
  go_wp2
  refine bodyPost_ret (by simp [results,Try.results55,go_sem]; rfl) rfl ?_
  exact ⟨rfl,(Ext.refl w).alloc _⟩
 ·have hne : (((l.length : Int)) != 10) = true:=by rw [bne_iff_ne]; omega
  clear h3 hf hl
  go_enter Try.func55,Try.ntmps55
  go_wp2
  refine bodyPost_ret (by simp [results,Try.results55,go_sem]; rfl) rfl ?_
  exact ⟨rfl,(Ext.refl w).alloc _⟩

set_option maxHeartbeats 1000000 in
theorem refReadRequest_read (v : Value) (b1 b2 b3 b4 b5 b6 b7 b8 b9 : UInt8) (w : World) (hv : Bytes w v [113,b1,b2,b3,b4,b5,b6,b7,b8,b9]) :
  Calls Try.prog 55 #[v] w fun e w'=>e = .returned (.tuple #[RQ (readRq [113,b1,b2,b3,b4,b5,b6,b7,b8,b9]).1,I (readRq [113,b1,b2,b3,b4,b5,b6,b7,b8,b9]).2]) ∧ Ext w w':=by
 have hneg : wrongRq ⟨b1.toNat,b2.toNat,⟨b3.toNat,b4.toNat,b5.toNat,numB [b6,b7,b8,b9]⟩⟩ = 0 → readRq [113,b1,b2,b3,b4,b5,b6,b7,b8,b9] = (⟨b1.toNat,b2.toNat,⟨b3.toNat,b4.toNat,b5.toNat,numB [b6,b7,b8,b9]⟩⟩,0):=fun h=>if_neg (show ¬ (wrongRq ⟨b1.toNat,b2.toNat,⟨b3.toNat,b4.toNat,b5.toNat,numB [b6,b7,b8,b9]⟩⟩ ≠ 0) from fun k=>k h)
 have hpos : ¬ wrongRq ⟨b1.toNat,b2.toNat,⟨b3.toNat,b4.toNat,b5.toNat,numB [b6,b7,b8,b9]⟩⟩ = 0 → readRq [113,b1,b2,b3,b4,b5,b6,b7,b8,b9] = (zeroRq,wrongRq ⟨b1.toNat,b2.toNat,⟨b3.toNat,b4.toNat,b5.toNat,numB [b6,b7,b8,b9]⟩⟩):=fun h=>if_pos (show wrongRq ⟨b1.toNat,b2.toNat,⟨b3.toNat,b4.toNat,b5.toNat,numB [b6,b7,b8,b9]⟩⟩ ≠ 0 from h)
 generalize readRq [113,b1,b2,b3,b4,b5,b6,b7,b8,b9] = RR at *
 obtain ⟨R,E⟩:=RR
 obtain ⟨b,off,cap,rfl,hc1,hc2,⟨c0,c1,c2,c3,c4,c5⟩,h6⟩:=bytes10 hv
 have hN:=fun wx (h : Ext w wx)=>num_any _ b6 b7 b8 b9 wx (h6.ext h)
 unfold maxLen at hc2
 clear hv h6
 generalize numB [b6,b7,b8,b9] = n at *
 have HN:=Lib.hid hneg
 have HP:=Lib.hid hpos
 clear hneg hpos
 have hk6 : ¬ cap = 6:=by omega
 have hbw:=wrap_byte
 have e0 : Ext w (w.alloc (.cells #[I 0,I 0,I 0,I 0,I 0,I 0] 35)):=(Ext.refl w).alloc _
 have HB:=Lib.hid (fun wx (h : Ext (w.alloc (.cells #[I 0,I 0,I 0,I 0,I 0,I 0] 35)) wx)=>block_ext h)
 replace c0:=e0.cell c0
 replace c1:=e0.cell c1
 replace c2:=e0.cell c2
 replace c3:=e0.cell c3
 replace c4:=e0.cell c4
 replace c5:=e0.cell c5
 go_enter Try.func55,Try.ntmps55
 go_wp2_with fail
 generalize hw0 : w.alloc (.cells #[I 0,I 0,I 0,I 0,I 0,I 0] 35) = w0 at *
 have HW0:=Lib.hid hw0
 clear hw0 c0
 refine wp_region_mono_tail 26 [none,none,none,none,none,none,none,none,none,none,none,none,none,none,none,none,none,none,none,none,none,none,some (.inl (I n)),none,none,some (.inr (BoxC w0.heap.size 35 #[I 0,I 0,I 0,I 0,I 0,I 0]))] (by kernel_rfl) (by kernel_rfl) ?_ ?_
 ·exact ⟨trivial,trivial,trivial,trivial,trivial,trivial,trivial,trivial,trivial,trivial,trivial,trivial,trivial,trivial,trivial,trivial,trivial,trivial,trivial,trivial,trivial,trivial,trivial,trivial,trivial,monoBoxC _ _ _,trivial⟩
 iterate 2 (refine wpM_p (fun K hK=>?_); go_simp; refine hK _ ?_; clear hK K)
 refine wpM_q (U b1) rfl (fun w' hw'=>by have q0:=hw'.cell c1; go_simp) ?_
 iterate 3 (refine wpM_p (fun K hK=>?_); go_simp; refine hK _ ?_; clear hK K)
 refine wpM_q (U b2) rfl (fun w' hw'=>by have q0:=hw'.cell c2; go_simp) ?_
 iterate 3 (refine wpM_p (fun K hK=>?_); go_simp; refine hK _ ?_; clear hK K)
 refine wpM_q (U b3) rfl (fun w' hw'=>by have q0:=hw'.cell c3; go_simp) ?_
 iterate 3 (refine wpM_p (fun K hK=>?_); go_simp; refine hK _ ?_; clear hK K)
 refine wpM_q (U b4) rfl (fun w' hw'=>by have q0:=hw'.cell c4; go_simp) ?_
 iterate 3 (refine wpM_p (fun K hK=>?_); go_simp; refine hK _ ?_; clear hK K)
 refine wpM_q (U b5) rfl (fun w' hw'=>by have q0:=hw'.cell c5; go_simp) ?_
 iterate 3 (refine wpM_p (fun K hK=>?_); go_simp; refine hK _ ?_; clear hK K)
 refine wpM_x _ rfl (fun w' hw' _=>?_) ?_
 ·have hg:=gives_exts (hN w' (e0.trans hw'))
  unfold makes
  go_simp
  exact ⟨Ext.refl _,hg⟩
 iterate 2 (refine wpM_p (fun K hK=>?_); go_simp; refine hK _ ?_; clear hK K)
 refine wpM_l _ rfl (fun w' hw' hk=>?_) (fun v4=>?_)
 ·clear hk
  unfold makes
  go_simp
  exact ⟨(Ext.refl _).alloc _,boxC_new hw'.size⟩
 refine wpM_nil ?_
 intro w1 e1 hX
 obtain ⟨d,rfl,hd0,hd1⟩ : BoxC w0.heap.size 35 #[I 0,I 0,I 0,I 0,I 0,I 0] v4 w1:=hX 4
 clear hX hN
 obtain ⟨⟨x0,x1,x2,x3,x4,x5⟩,f0,f1,f2,f3,f4,f5⟩:=box6 hd1
 have e2:=ext_set6 e1 hd0 (I b1.toNat) (I b2.toNat) (I b3.toNat) (I b4.toNat) (I b5.toNat) (I n)
 have hd2:=set6 hd1 (I b1.toNat) (I b2.toNat) (I b3.toNat) (I b4.toNat) (I b5.toNat) (I n)
 go_wp2_with fail
 clear x0 x1 x2 x3 x4 x5 f0 f1 f2 f3 f4 f5 c1 c2 c3 c4 c5 hd1 e1
 generalize hw2 : (((((w1.setCell ⟨d,0,none⟩ (I b1.toNat)).setCell ⟨d,1,none⟩ (I b2.toNat)).setCell ⟨d,2,none⟩ (I b3.toNat)).setCell ⟨d,3,none⟩ (I b4.toNat)).setCell ⟨d,4,none⟩ (I b5.toNat)).setCell ⟨d,5,none⟩ (I n) = w2 at *
 clear hw2 hbw
 refine Calls.exts (refWrongRequest_any (b1.toNat : Int) b2.toNat b3.toNat b4.toNat b5.toNat n w2) (fun w5 e5=>?_)
 have rb:=HB.out w5 (e2.trans e5)
 obtain ⟨⟨z0,z1,z2,z3,z4,z5⟩,f0,f1,f2,f3,f4,f5⟩:=box6 rb
 have m5 : Ext w w5:=e0.trans (e2.trans e5)
 by_cases hz : wrongRq ⟨b1.toNat,b2.toNat,⟨b3.toNat,b4.toNat,b5.toNat,n⟩⟩ = 0
 ·rw [hz]
  obtain ⟨⟨x0,x1,x2,x3,x4,x5⟩,-⟩:=box6 (block_of hd2 e5)
  have HZ:=Lib.hid hz
  clear hz
  go_wp2
  have rb2:=set6 rb (I b1.toNat) (I b2.toNat) (I b3.toNat) (I b4.toNat) (I b5.toNat) (I n)
  obtain ⟨⟨q0,q1,q2,q3,q4,q5⟩,-⟩:=box6 rb2
  have m6:=ext_set6 m5 (Nat.le_refl w.heap.size) (I b1.toNat) (I b2.toNat) (I b3.toNat) (I b4.toNat) (I b5.toNat) (I n)
  clear x0 x1 x2 x3 x4 x5 z0 z1 z2 z3 z4 z5 f0 f1 f2 f3 f4 f5
  refine bodyPost_ret (by simp [results,Try.results55,go_sem,q0,q1,q2,q3,q4,q5]; rfl) rfl ?_
  obtain ⟨h1,h2⟩:=Prod.mk.inj (HN.out HZ.out)
  rw [h1,h2]
  exact ⟨rfl,m6⟩
 ·have hb : (wrongRq ⟨b1.toNat,b2.toNat,⟨b3.toNat,b4.toNat,b5.toNat,n⟩⟩ != 0) = true:=by simpa using hz
  have HZ:=Lib.hid hz
  clear hz
  go_wp2
  have rb2:=set6 rb (I 0) (I 0) (I 0) (I 0) (I 0) (I 0)
  obtain ⟨⟨q0,q1,q2,q3,q4,q5⟩,-⟩:=box6 rb2
  have m6:=ext_set6 m5 (Nat.le_refl w.heap.size) (I 0) (I 0) (I 0) (I 0) (I 0) (I 0)
  clear z0 z1 z2 z3 z4 z5 f0 f1 f2 f3 f4 f5
  refine bodyPost_ret (by simp [results,Try.results55,go_sem,q0,q1,q2,q3,q4,q5]; rfl) rfl ?_
  obtain ⟨h1,h2⟩:=Prod.mk.inj (HP.out HZ.out)
  rw [h1,h2]
  exact ⟨rfl,m6⟩

theorem refReadRequest_any (v : Value) (l : List UInt8) (w : World) (hv : Bytes w v l) :
  Calls Try.prog 55 #[v] w fun e w'=>e = .returned (.tuple #[RQ (readRq l).1,I (readRq l).2]) ∧ Ext w w':=by
 by_cases hf : l.length = 10 ∧ l.getD 0 0 = 113
 ·obtain ⟨b1,b2,b3,b4,b5,b6,b7,b8,b9,rfl⟩:=ten_of hf
  exact refReadRequest_read v b1 b2 b3 b4 b5 b6 b7 b8 b9 w hv
 ·exact refReadRequest_form v l w hv hf

set_option maxHeartbeats 1000000 in
theorem refReadAnswer_form (v : Value) (l : List UInt8) (w : World) (hv : Bytes w v l) (hf : ¬ (l.length = 8 ∧ l.getD 0 0 = 97)) :
  Calls Try.prog 50 #[v] w fun e w'=>e = .returned (.tuple #[AN (readAn l).1,I (readAn l).2]) ∧ Ext w w':=by
 rw [readAn_form hf]
 obtain ⟨ao,cap,rfl,h1,h2,h3⟩:=hv.form
 unfold maxLen at h2
 clear hv
 by_cases hl : l.length = 8
 ·obtain ⟨b,off,rfl,hc⟩:=h3 0 (by omega)
  have hm : ¬ l.getD 0 0 = 97:=fun h=>hf ⟨hl,h⟩
  clear h3 hf
  simp only [Nat.add_zero] at hc
  rw [hl] at h1 ⊢
  generalize l.getD 0 0 = x at *
  have hu : ((x.toNat : Int) != 97) = true:=by
   rw [bne_iff_ne]
   intro h
   exact hm (UInt8.toNat_inj.1 (show x.toNat = 97 by omega))
  replace hc:=((Ext.refl w).alloc (.cells #[I 0,I 0,I 0,I 0] 77)).cell hc
  clear hm hl
  go_enter Try.func50,Try.ntmps50
  go_wp2
  refine bodyPost_ret (by simp [results,Try.results50,go_sem]; rfl) rfl ?_
  exact ⟨rfl,(Ext.refl w).alloc _⟩
 ·have hne : (((l.length : Int)) != 8) = true:=by rw [bne_iff_ne]; omega
  clear h3 hf hl
  go_enter Try.func50,Try.ntmps50
  go_wp2
  refine bodyPost_ret (by simp [results,Try.results50,go_sem]; rfl) rfl ?_
  exact ⟨rfl,(Ext.refl w).alloc _⟩

set_option maxHeartbeats 1000000 in
theorem refReadAnswer_read (v : Value) (b1 b2 b3 b4 b5 b6 b7 : UInt8) (w : World) (hv : Bytes w v [97,b1,b2,b3,b4,b5,b6,b7]) :
  Calls Try.prog 50 #[v] w fun e w'=>e = .returned (.tuple #[AN (readAn [97,b1,b2,b3,b4,b5,b6,b7]).1,I (readAn [97,b1,b2,b3,b4,b5,b6,b7]).2]) ∧ Ext w w':=by
 have hneg : wrongAn ⟨b1.toNat,b2.toNat,⟨b3.toNat,numB [b4,b5,b6,b7]⟩⟩ = 0 → readAn [97,b1,b2,b3,b4,b5,b6,b7] = (⟨b1.toNat,b2.toNat,⟨b3.toNat,numB [b4,b5,b6,b7]⟩⟩,0):=fun h=>if_neg (show ¬ (wrongAn ⟨b1.toNat,b2.toNat,⟨b3.toNat,numB [b4,b5,b6,b7]⟩⟩ ≠ 0) from fun k=>k h)
 have hpos : ¬ wrongAn ⟨b1.toNat,b2.toNat,⟨b3.toNat,numB [b4,b5,b6,b7]⟩⟩ = 0 → readAn [97,b1,b2,b3,b4,b5,b6,b7] = (zeroAn,wrongAn ⟨b1.toNat,b2.toNat,⟨b3.toNat,numB [b4,b5,b6,b7]⟩⟩):=fun h=>if_pos (show wrongAn ⟨b1.toNat,b2.toNat,⟨b3.toNat,numB [b4,b5,b6,b7]⟩⟩ ≠ 0 from h)
 generalize readAn [97,b1,b2,b3,b4,b5,b6,b7] = RR at *
 obtain ⟨R,E⟩:=RR
 obtain ⟨b,off,cap,rfl,hc1,hc2,⟨c0,c1,c2,c3⟩,h6⟩:=bytes8 hv
 have hN:=fun wx (h : Ext w wx)=>num_any _ b4 b5 b6 b7 wx (h6.ext h)
 unfold maxLen at hc2
 clear hv h6
 generalize numB [b4,b5,b6,b7] = n at *
 have HN:=Lib.hid hneg
 have HP:=Lib.hid hpos
 clear hneg hpos
 have hk6 : ¬ cap = 4:=by omega
 have hbw:=wrap_byte
 have e0 : Ext w (w.alloc (.cells #[I 0,I 0,I 0,I 0] 77)):=(Ext.refl w).alloc _
 have HB:=Lib.hid (fun wx (h : Ext (w.alloc (.cells #[I 0,I 0,I 0,I 0] 77)) wx)=>block_ext h)
 replace c0:=e0.cell c0
 replace c1:=e0.cell c1
 replace c2:=e0.cell c2
 replace c3:=e0.cell c3
 go_enter Try.func50,Try.ntmps50
 go_wp2_with fail
 generalize hw0 : w.alloc (.cells #[I 0,I 0,I 0,I 0] 77) = w0 at *
 have HW0:=Lib.hid hw0
 clear hw0 c0
 refine wp_region_mono_tail 18 [none,none,none,none,none,none,none,none,none,none,none,none,none,none,some (.inl (I n)),none,none,some (.inr (BoxC w0.heap.size 77 #[I 0,I 0,I 0,I 0]))] (by kernel_rfl) (by kernel_rfl) ?_ ?_
 ·exact ⟨trivial,trivial,trivial,trivial,trivial,trivial,trivial,trivial,trivial,trivial,trivial,trivial,trivial,trivial,trivial,trivial,trivial,monoBoxC _ _ _,trivial⟩
 iterate 2 (refine wpM_p (fun K hK=>?_); go_simp; refine hK _ ?_; clear hK K)
 refine wpM_q (U b1) rfl (fun w' hw'=>by have q0:=hw'.cell c1; go_simp) ?_
 iterate 3 (refine wpM_p (fun K hK=>?_); go_simp; refine hK _ ?_; clear hK K)
 refine wpM_q (U b2) rfl (fun w' hw'=>by have q0:=hw'.cell c2; go_simp) ?_
 iterate 3 (refine wpM_p (fun K hK=>?_); go_simp; refine hK _ ?_; clear hK K)
 refine wpM_q (U b3) rfl (fun w' hw'=>by have q0:=hw'.cell c3; go_simp) ?_
 iterate 3 (refine wpM_p (fun K hK=>?_); go_simp; refine hK _ ?_; clear hK K)
 refine wpM_x _ rfl (fun w' hw' _=>?_) ?_
 ·have hg:=gives_exts (hN w' (e0.trans hw'))
  unfold makes
  go_simp
  exact ⟨Ext.refl _,hg⟩
 iterate 2 (refine wpM_p (fun K hK=>?_); go_simp; refine hK _ ?_; clear hK K)
 refine wpM_l _ rfl (fun w' hw' hk=>?_) (fun v4=>?_)
 ·clear hk
  unfold makes
  go_simp
  exact ⟨(Ext.refl _).alloc _,boxC_new hw'.size⟩
 refine wpM_nil ?_
 intro w1 e1 hX
 obtain ⟨d,rfl,hd0,hd1⟩ : BoxC w0.heap.size 77 #[I 0,I 0,I 0,I 0] v4 w1:=hX 4
 clear hX hN
 obtain ⟨x0,x1,x2,x3,f0,f1,f2,f3⟩:=box4 hd1
 have e2:=ext_set4 e1 hd0 (I b1.toNat) (I b2.toNat) (I b3.toNat) (I n)
 have hd2:=set4 hd1 (I b1.toNat) (I b2.toNat) (I b3.toNat) (I n)
 go_wp2_with fail
 clear x0 x1 x2 x3 f0 f1 f2 f3 c1 c2 c3 hd1 e1
 generalize hw2 : (((w1.setCell ⟨d,0,none⟩ (I b1.toNat)).setCell ⟨d,1,none⟩ (I b2.toNat)).setCell ⟨d,2,none⟩ (I b3.toNat)).setCell ⟨d,3,none⟩ (I n) = w2 at *
 clear hw2 hbw
 refine Calls.exts (refWrongAnswer_any (b1.toNat : Int) b2.toNat b3.toNat n w2) (fun w5 e5=>?_)
 have rb:=HB.out w5 (e2.trans e5)
 obtain ⟨z0,z1,z2,z3,f0,f1,f2,f3⟩:=box4 rb
 have m5 : Ext w w5:=e0.trans (e2.trans e5)
 by_cases hz : wrongAn ⟨b1.toNat,b2.toNat,⟨b3.toNat,n⟩⟩ = 0
 ·rw [hz]
  obtain ⟨x0,x1,x2,x3,-⟩:=box4 (block_of hd2 e5)
  have HZ:=Lib.hid hz
  clear hz
  go_wp2
  have rb2:=set4 rb (I b1.toNat) (I b2.toNat) (I b3.toNat) (I n)
  obtain ⟨q0,q1,q2,q3,-⟩:=box4 rb2
  have m6:=ext_set4 m5 (Nat.le_refl w.heap.size) (I b1.toNat) (I b2.toNat) (I b3.toNat) (I n)
  clear x0 x1 x2 x3 z0 z1 z2 z3 f0 f1 f2 f3
  refine bodyPost_ret (by simp [results,Try.results50,go_sem,q0,q1,q2,q3]; rfl) rfl ?_
  obtain ⟨h1,h2⟩:=Prod.mk.inj (HN.out HZ.out)
  rw [h1,h2]
  exact ⟨rfl,m6⟩
 ·have hb : (wrongAn ⟨b1.toNat,b2.toNat,⟨b3.toNat,n⟩⟩ != 0) = true:=by simpa using hz
  have HZ:=Lib.hid hz
  clear hz
  go_wp2
  have rb2:=set4 rb (I 0) (I 0) (I 0) (I 0)
  obtain ⟨q0,q1,q2,q3,-⟩:=box4 rb2
  have m6:=ext_set4 m5 (Nat.le_refl w.heap.size) (I 0) (I 0) (I 0) (I 0)
  clear z0 z1 z2 z3 f0 f1 f2 f3
  refine bodyPost_ret (by simp [results,Try.results50,go_sem,q0,q1,q2,q3]; rfl) rfl ?_
  obtain ⟨h1,h2⟩:=Prod.mk.inj (HP.out HZ.out)
  rw [h1,h2]
  exact ⟨rfl,m6⟩

theorem refReadAnswer_any (v : Value) (l : List UInt8) (w : World) (hv : Bytes w v l) :
  Calls Try.prog 50 #[v] w fun e w'=>e = .returned (.tuple #[AN (readAn l).1,I (readAn l).2]) ∧ Ext w w':=by
 by_cases hf : l.length = 8 ∧ l.getD 0 0 = 97
 ·obtain ⟨b1,b2,b3,b4,b5,b6,b7,rfl⟩:=eight_of hf
  exact refReadAnswer_read v b1 b2 b3 b4 b5 b6 b7 w hv
 ·exact refReadAnswer_form v l w hv hf

end Go.Proofs.Ytdmipnnfoolelad

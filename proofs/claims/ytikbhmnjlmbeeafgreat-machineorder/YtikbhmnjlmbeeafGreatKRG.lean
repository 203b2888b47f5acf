/- Texts of the proof, merged: Math10 Math11 Math12. -/
import Derived.Test.YtikbhmnjlmbeeafGreatKRA
import Derived.Test.YtikbhmnjlmbeeafGreatKRD
import Derived.Test.YtikbhmnjlmbeeafGreatKRF

namespace Go.Mk
open Go Go.RowKit

def zcd (l : List (List Cl)) (i t : Nat) : Rq:=⟨i,t,(l.getD i []).getD t zn1⟩
def zcR (p : List Rq) (i : Nat) : List Rq:=p.filter fun r=>decide (r.client = (i : Int))
def zdG (p : List Rq) : List (Int × Int):=(zdO (p.map Rq.call)).1
def zcK (p : List Rq) (i : Nat) : List Rp:=((p.zip (zdO (p.map Rq.call)).2).filter fun x=>decide (x.1.client = (i : Int))).map fun x=>⟨x.2.1,x.2.2⟩

theorem zkd (cs : List Cl) : (zdO cs).2.length = cs.length:=by
 have key : ∀ (cs : List Cl) (s : List (Int × Int) × List (Int × Int)),(cs.foldl zgX s).2.length = s.2.length + cs.length:=by
  intro cs
  induction cs with
  | nil=>intro s; rfl
  | cons c cs ih=>intro s; rw [List.foldl_cons,ih]; simp [zgX]; omega
 have:=key cs ([],[])
 simpa [zdO] using this
theorem zlV (p : List Rq) (r : Rq) : zdG (p ++ [r]) = (zbq (zdG p) r.call).1:=by
 unfold zdG
 rw [List.map_append,List.map_cons,List.map_nil,zgK]
 rfl
theorem zjV (p : List Rq) (r : Rq) (i : Nat) : zcR (p ++ [r]) i = if r.client = (i : Int) then zcR p i ++ [r] else zcR p i:=by
 unfold zcR
 rw [List.filter_append]
 by_cases h : r.client = (i : Int)
 ·rw [if_pos h]; simp [h]
 ·rw [if_neg h]; simp [h]
theorem zhJ (p : List Rq) (r : Rq) (i : Nat) : zcK (p ++ [r]) i = if r.client = (i : Int) then zcK p i ++ [(zbq (zdG p) r.call).2] else zcK p i:=by
 unfold zcK zdG
 rw [List.map_append,List.map_cons,List.map_nil,zgK]
 simp only [zgX]
 rw [List.zip_append (by rw [zkd,List.length_map])]
 simp only [List.zip_cons_cons,List.zip_nil_right,List.filter_append]
 by_cases h : r.client = (i : Int)
 ·rw [if_pos h]; simp [h]
 ·rw [if_neg h]; simp [h]
theorem zfW (p : List Rq) (i : Nat) : (zcK p i).length = (zcR p i).length:=by
 have key : ∀ (q : List Rq) (y : List (Int × Int)),q.length = y.length -> (((q.zip y).filter fun x=>decide (x.1.client = (i : Int))).map fun x=>(⟨x.2.1,x.2.2⟩ : Rp)).length = (q.filter fun r=>decide (r.client = (i : Int))).length:=by
  intro q
  induction q with
  | nil=>intro y _; simp
  | cons r q ih =>
   intro y hy
   cases y with
   | nil=>simp at hy
   | cons a y =>
    have:=ih y (by simpa using hy)
    by_cases h : r.client = (i : Int)
    ·simp [h] at this ⊢; exact this
    ·simp [h] at this ⊢; exact this
 exact key p _ (by rw [zkd,List.length_map])

theorem ziZ {X : Type} {xs : List X} {t : Nat} {d : X} (h : t < xs.length) : xs.getD t d ∈ xs:=by
 rw [List.getD_eq_getElem?_getD,List.getElem?_eq_getElem h]
 exact List.getElem_mem h
theorem zhH {l : List (List Cl)} (hl : zbF l) {i t : Nat} (hi : i < l.length) (ht : t < (l.getD i []).length) : zbD (zcd l i t) = 0:=by
 have hg : l.getD i [] = l[i]:=by simp [hi]
 have h8:=hl.2 (l.getD i []) (by rw [hg]; exact List.getElem_mem hi)
 have h3:=hl.1
 have hw : wrongCl ((l.getD i []).getD t zn1) = 0:=h8.2 _ (ziZ ht)
 unfold zbD zcd
 rw [if_neg (by simp only []; omega)]
 exact hw
theorem zfF {l : List (List Cl)} (hl : zbF l) {i t : Nat} (hi : i < l.length) (ht : t < (l.getD i []).length) : wrongCl (zcd l i t).call = 0:=(zd0 (zhH hl hi ht)).2

def zpi (r : Rp) : Prop:=0 <= r.err /\ r.err <= 12 /\ -1073741824 <= r.n /\ r.n <= 1073741824 /\ (0 < r.err -> r.n = 0)
theorem zmx {l : List (Int × Int)} {c : Cl} (h : Okn l) (hc : wrongCl c = 0) : zpi (zbq l c).2:=by
 obtain ⟨_,h2,h3,h4⟩:=zkA h hc
 have he : (zbq l c).2.err = 0 ∨ (zbq l c).2.err = 3 ∨ (zbq l c).2.err = 6 ∨ (zbq l c).2.err = 9:=by
  unfold zbq
  repeat' split
  all_goals simp
 refine ⟨by omega,by omega,h3,h4,fun h0=>?_⟩
 rcases h2 with h2 | h2
 ·omega
 ·exact h2.1

def zja (l : List (List Cl)) (p : List Rq) : Prop:=∀ r ∈ p,∃ i t : Nat,i < l.length /\ t < (l.getD i []).length /\ r = zcd l i t
theorem zgL {l : List (List Cl)} (hl : zbF l) {p : List Rq} (hp : zja l p) : Okn (zdG p):=by
 have:=(zpN (cs:=p.map Rq.call) (fun c hc=>by
  obtain ⟨r,hr,rfl⟩:=List.mem_map.1 hc
  obtain ⟨i,t,hi,ht,rfl⟩:=hp r hr
  exact zfF hl hi ht) p.length).1
 rwa [List.take_of_length_le (by simp)] at this
theorem znp {l : List (List Cl)} (hl : zbF l) {p : List Rq} (hp : zja l p) (i : Nat) : ∀ r ∈ zcK p i,zpi r:=by
 have key : ∀ n,n <= p.length -> ∀ r ∈ zcK (p.take n) i,zpi r:=by
  intro n
  induction n with
  | zero=>intro _ r hr; simp [zcK] at hr
  | succ n ih =>
   intro hn r hr
   have hlt : n < p.length:=by omega
   rw [List.take_add_one,List.getElem?_eq_getElem hlt] at hr
   simp only [Option.toList_some] at hr
   rw [zhJ] at hr
   split at hr
   ·rw [List.mem_append] at hr
    rcases hr with hr | hr
    ·exact ih (by omega) r hr
    ·simp only [List.mem_singleton] at hr
     subst hr
     obtain ⟨j,t,hj,ht,he⟩:=hp p[n] (List.getElem_mem hlt)
     refine zmx (zgL hl (p:=p.take n) fun q hq=>hp q (List.mem_of_mem_take hq)) ?_
     rw [he]
     exact zfF hl hj ht
   ·exact ih (by omega) r hr
 have:=key p.length (Nat.le_refl _)
 rwa [List.take_length] at this
theorem zjC {l : List (List Cl)} (hl : zbF l) {p : List Rq} (hp : zja l p) {i t : Nat} (hi : i < l.length) (ht : t < 8) (hd : t < (zcK p i).length) : zbu ⟨i,t,(zcK p i).getD t ⟨0,0⟩⟩ = 0:=by
 have hm : (zcK p i).getD t ⟨0,0⟩ ∈ zcK p i:=by
  rw [List.getD_eq_getElem?_getD,List.getElem?_eq_getElem hd]; exact List.getElem_mem hd
 obtain ⟨h1,h2,h3,h4,h5⟩:=znp hl hp i _ hm
 have:=hl.1
 unfold zbu
 rw [if_neg]
 simp only []
 omega
open Go Go.RowKit

def zdi (cl : List Cn) (k : Nat) : Nat:=(cl.getD k (zbY [])).got.length

inductive Phase (l : List (List Cl)) (p : List Rq) (gen : Int) (up : Bool) (ks : List Nat) (bz : Option Nat) (i : Nat) (c : Cn) : Prop
 | rest : i ∉ ks -> bz ≠ some i -> c.sent = false -> c.box = [] -> (zcR p i).length = c.got.length -> Phase l p gen up ks bz i c
 | wait : i ∈ ks -> bz ≠ some i -> c.sent = true -> c.gen = gen -> c.box = [] -> c.got.length < (l.getD i []).length -> Phase l p gen up ks bz i c
 | work : i ∉ ks -> bz = some i -> c.sent = true -> c.gen = gen -> c.box = [] -> c.got.length < (l.getD i []).length -> (zcR p i).length = c.got.length -> Phase l p gen up ks bz i c
 | hear : i ∉ ks -> bz ≠ some i -> c.sent = true -> (zcR p i).length = c.got.length + 1 -> c.box = [zci ⟨i,c.got.length,(zcK p i).getD c.got.length ⟨0,0⟩⟩] -> Phase l p gen up ks bz i c
 | lost : i ∉ ks -> bz ≠ some i -> c.sent = true -> c.box = [] -> c.got.length < (l.getD i []).length -> (up = true -> c.gen ≠ gen) -> Phase l p gen up ks bz i c

structure CInv (l : List (List Cl)) (p : List Rq) (an : List An) (gen : Int) (up : Bool) (ks : List Nat) (bz : Option Nat) (i : Nat) (c : Cn) : Prop where
 calls : c.calls = l.getD i []
 at_ : c.at_ = (c.got.length : Int)
 done : zcR p i = (List.range (zcR p i).length).map (zcd l i)
 most : (zcR p i).length <= (l.getD i []).length
 got : c.got = (zcK p i).take c.got.length
 step : (zcR p i).length = c.got.length ∨ (zcR p i).length = c.got.length + 1
 last : lastAn an i = if (zcR p i).length = 0 then (zeroAn,false) else (⟨i,((zcR p i).length - 1 : Nat),(zcK p i).getD ((zcR p i).length - 1) ⟨0,0⟩⟩,true)
 hgen : c.gen <= gen
 phase : Phase l p gen up ks bz i c

structure MInv (l : List (List Cl)) (m : Mc) (ks : List Nat) (bz : Option Nat) : Prop where
 nc : m.clients.length = l.length
 nodup : ks.Nodup
 ksl : ∀ k ∈ ks,k < l.length
 box : m.server.box = ks.map fun k=>zcp (zcd l k (zdi m.clients k))
 busy : m.server.busy = bz.isSome
 idle : bz = none -> m.server = zbG m.server.gen m.server.box
 work : ∀ i,bz = some i -> i < l.length /\ m.server.now = zcd l i (zdi m.clients i) /\ m.server.says = (zbq (zdG m.store.past) m.server.now.call).2 /\
  zaH m.store.cells m.server.plan = zaH (zaH m.store.cells m.store.undo) (zbm (zdG m.store.past) m.server.now.call) /\ m.server.plan.length <= 3
 down : m.up = false -> ks = [] /\ bz = none /\ 1 <= m.pause /\ m.pause <= 3
 upp : m.up = true -> m.pause = 0
 clean : m.up = true -> bz = none -> m.store.undo = []
 cells : m.store.cells.length = 11
 right : zej (zaH m.store.cells m.store.undo) = 0
 nm : zbO (zaH m.store.cells m.store.undo) = zdG m.store.past
 undo : ∀ q ∈ m.store.undo,0 <= q.1 /\ q.1 <= 10
 past : zja l m.store.past
 falls : 0 <= m.falls /\ m.falls <= 6
 gens : 0 <= m.server.gen /\ (m.up = true -> m.server.gen = m.falls) /\ (m.up = false -> m.server.gen + 1 = m.falls)
 clients : ∀ i c,m.clients[i]? = some c -> CInv l m.store.past m.store.answers m.server.gen m.up ks bz i c

theorem zmt (l : List (List Cl)) : MInv l (zbb l) [] none where
 nc:=by simp [zbb]
 nodup:=List.nodup_nil
 ksl:=fun k hk=>by cases hk
 box:=rfl
 busy:=rfl
 idle:=fun _=>rfl
 work:=fun i hi=>by cases hi
 down:=fun h=>by cases h
 upp:=fun _=>rfl
 clean:=fun _ _=>rfl
 cells:=rfl
 right:=by show zej (zaH (List.replicate 11 0) []) = 0; decide
 nm:=by show zbO (zaH (List.replicate 11 0) []) = []; decide
 undo:=fun q hq=>by cases hq
 past:=fun r hr=>by cases hr
 falls:=⟨Int.le_refl _,by show (0 : Int) <= 6; decide⟩
 gens:=⟨Int.le_refl _,fun _=>rfl,fun h=>by cases h⟩
 clients:=fun i c hc=>by
  have hc' : (l.map zbY)[i]? = some c:=hc
  rw [List.getElem?_map] at hc'
  cases hg : l[i]? with
  | none=>rw [hg] at hc'; cases hc'
  | some cs =>
   rw [hg] at hc'
   simp at hc'
   subst hc'
   have hd : l.getD i [] = cs:=by simp [hg]
   exact ⟨hd.symm,rfl,rfl,Nat.zero_le _,rfl,.inl rfl,rfl,Int.le_refl _,.rest (by simp) (by simp) rfl rfl rfl⟩

theorem Phase.other {l : List (List Cl)} {p p' : List Rq} {gen : Int} {up : Bool} {ks ks' : List Nat} {bz bz' : Option Nat} {i : Nat} {c : Cn} (h : Phase l p gen up ks bz i c)
  (hm : zcR p' i = zcR p i) (ht : zcK p' i = zcK p i) (hk : i ∈ ks' ↔ i ∈ ks) (hb : bz' = some i ↔ bz = some i) : Phase l p' gen up ks' bz' i c:=by
 cases h with
 | rest a b d e f=>exact .rest (fun x=>a (hk.1 x)) (fun x=>b (hb.1 x)) d e (by rw [hm]; exact f)
 | wait a b d e f g=>exact .wait (hk.2 a) (fun x=>b (hb.1 x)) d e f g
 | work a b d e f g k=>exact .work (fun x=>a (hk.1 x)) (hb.2 b) d e f g (by rw [hm]; exact k)
 | hear a b d e f=>exact .hear (fun x=>a (hk.1 x)) (fun x=>b (hb.1 x)) d (by rw [hm]; exact e) (by rw [ht]; exact f)
 | lost a b d e f g=>exact .lost (fun x=>a (hk.1 x)) (fun x=>b (hb.1 x)) d e f g
theorem CInv.other {l : List (List Cl)} {p p' : List Rq} {an an' : List An} {gen : Int} {up : Bool} {ks ks' : List Nat} {bz bz' : Option Nat} {i : Nat} {c : Cn} (h : CInv l p an gen up ks bz i c)
  (hm : zcR p' i = zcR p i) (ht : zcK p' i = zcK p i) (ha : lastAn an' i = lastAn an i) (hk : i ∈ ks' ↔ i ∈ ks) (hb : bz' = some i ↔ bz = some i) : CInv l p' an' gen up ks' bz' i c :=
 ⟨h.calls,h.at_,by rw [hm]; exact h.done,by rw [hm]; exact h.most,by rw [ht]; exact h.got,by rw [hm]; exact h.step,by rw [hm,ht,ha]; exact h.last,h.hgen,h.phase.other hm ht hk hb⟩

theorem znX (f : Int) : 1 <= pauseOf f /\ pauseOf f <= 3:=by
 unfold pauseOf
 repeat' split
 all_goals omega

theorem zoj {l : List (List Cl)} {m : Mc} {ks : List Nat} {bz : Option Nat} (h : MInv l m ks bz) : ∃ ks' bz',MInv l (zcZ m).1 ks' bz':=by
 unfold zcZ
 by_cases hu : m.up = true
 case neg=>rw [if_pos hu]; exact ⟨ks,bz,h⟩
 rw [if_neg (by simpa using hu)]
 by_cases hf : 6 <= m.falls
 ·rw [if_pos hf]; exact ⟨ks,bz,h⟩
 rw [if_neg hf]
 refine ⟨[],none,?_⟩
 have hp:=znX (m.falls + 1)
 have hfl:=h.falls
 have hge:=h.gens
 exact {
  nc:=h.nc
  nodup:=List.nodup_nil
  ksl:=fun k hk=>by cases hk
  box:=rfl
  busy:=rfl
  idle:=fun _=>rfl
  work:=fun i hi=>by cases hi
  down:=fun _=>⟨rfl,rfl,hp.1,hp.2⟩
  upp:=fun h=>by cases h
  clean:=fun h=>by cases h
  cells:=h.cells
  right:=h.right
  nm:=h.nm
  undo:=h.undo
  past:=h.past
  falls:=by show 0 <= m.falls + 1 /\ m.falls + 1 <= 6; omega
  gens:=⟨hge.1,(fun h=>by cases h),fun _=>by show m.server.gen + 1 = m.falls + 1; rw [hge.2.1 hu]⟩
  clients:=fun i c hc=>by
   have hi:=h.clients i c hc
   refine ⟨hi.calls,hi.at_,hi.done,hi.most,hi.got,hi.step,hi.last,hi.hgen,?_⟩
   cases hi.phase with
   | rest a b d e f=>exact .rest (by simp) (by simp) d e f
   | wait a b d e f g=>exact .lost (by simp) (by simp) d f g (fun h=>by cases h)
   | work a b d e f g k=>exact .lost (by simp) (by simp) d f g (fun h=>by cases h)
   | hear a b d e f=>exact .hear (by simp) (by simp) d e f
   | lost a b d e f g=>exact .lost (by simp) (by simp) d e f (fun h=>by cases h) }

theorem zoC {l : List (List Cl)} {m : Mc} {ks : List Nat} {bz : Option Nat} (h : MInv l m ks bz) : ∃ ks' bz',MInv l (zd9 m) ks' bz':=by
 unfold zd9
 by_cases hu : m.up = true
 ·rw [if_pos hu]; exact ⟨ks,bz,h⟩
 rw [if_neg hu]
 have hu' : m.up = false:=by simpa using hu
 obtain ⟨rfl,rfl,hp1,hp2⟩:=h.down hu'
 by_cases hp : 1 < m.pause
 ·rw [if_pos hp]
  exact ⟨[],none,{ h with down:=fun _=>⟨rfl,rfl,by show 1 <= m.pause - 1; omega,by show m.pause - 1 <= 3; omega⟩,upp:=fun h=>absurd h hu,clean:=fun h=>absurd h hu }⟩
 rw [if_neg hp]
 refine ⟨[],none,?_⟩
 have hfl:=h.falls
 have hge:=h.gens
 exact {
  nc:=h.nc
  nodup:=List.nodup_nil
  ksl:=fun k hk=>by cases hk
  box:=rfl
  busy:=rfl
  idle:=fun _=>rfl
  work:=fun i hi=>by cases hi
  down:=fun h=>by cases h
  upp:=fun _=>rfl
  clean:=fun _ _=>rfl
  cells:=by show (zaH m.store.cells m.store.undo).length = 11; rw [zbV]; exact h.cells
  right:=h.right
  nm:=h.nm
  undo:=fun q hq=>by cases hq
  past:=h.past
  falls:=h.falls
  gens:=⟨by show 0 <= m.server.gen + 1; omega,fun _=>hge.2.2 hu',fun h=>by cases h⟩
  clients:=fun i c hc=>by
   have hi:=h.clients i c hc
   have hgn:=hi.hgen
   refine ⟨hi.calls,hi.at_,hi.done,hi.most,hi.got,hi.step,hi.last,by show c.gen <= m.server.gen + 1; omega,?_⟩
   cases hi.phase with
   | rest a b d e f=>exact .rest (by simp) (by simp) d e f
   | wait a b d e f g=>cases a
   | work a b d e f g k=>cases b
   | hear a b d e f=>exact .hear (by simp) (by simp) d e f
   | lost a b d e f g=>exact .lost (by simp) (by simp) d e f (fun _=>by show c.gen ≠ m.server.gen + 1; omega) }
open Go Go.RowKit

theorem zlx {cl : List Cn} {i k : Nat} {c : Cn} (h : k ≠ i) : zdi (cl.set i c) k = zdi cl k:=by
 unfold zdi
 rw [List.getD_eq_getElem?_getD,List.getD_eq_getElem?_getD,List.getElem?_set_ne (fun e=>h e.symm)]
theorem zeb {cl : List Cn} {i : Nat} {c : Cn} (h : cl[i]? = some c) : zdi cl i = c.got.length:=by
 unfold zdi
 rw [List.getD_eq_getElem?_getD,h]
 rfl
theorem zj9 {X : Type} {cl : List X} {i k : Nat} {c c' d : X} (hc : cl[i]? = some c) (h : (cl.set i c')[k]? = some d) : k = i /\ d = c' ∨ k ≠ i /\ cl[k]? = some d:=by
 by_cases e : k = i
 ·subst e
  have hl : k < cl.length:=(List.getElem?_eq_some_iff.1 hc).1
  rw [List.getElem?_set_self hl] at h
  exact .inl ⟨rfl,(Option.some.inj h).symm⟩
 ·rw [List.getElem?_set_ne (fun x=>e x.symm)] at h
  exact .inr ⟨e,h⟩
theorem zgP {cl : List Cn} {i : Nat} {c c' : Cn} (hc : cl[i]? = some c) (hg : c'.got.length = c.got.length) (k : Nat) : zdi (cl.set i c') k = zdi cl k:=by
 by_cases e : k = i
 ·subst e
  have hl : k < cl.length:=(List.getElem?_eq_some_iff.1 hc).1
  rw [zeb (c:=c') (List.getElem?_set_self hl),zeb hc,hg]
 ·exact zlx e

theorem zmU {c : Cn} {me gen : Int} {up : Bool} {a : An} (hb : c.box = [zci a]) (hw : zbu a = 0) (h1 : a.client = me) (h2 : a.token = c.at_) (h3 : c.sent = true) :
  zcH c me gen up = (⟨c.calls,c.at_ + 1,false,c.gen,[],c.got ++ [a.reply]⟩,[],0):=by
 unfold zcH
 rw [hb]
 simp only [zi9 hw]
 rw [if_pos (by exact ⟨trivial,h1,h2,h3⟩)]
theorem zhL {c : Cn} {me gen : Int} {up : Bool} (hb : c.box = []) : zcH c me gen up = if (c.calls.length : Int) <= c.at_ then (c,[],11) else if ¬ up then (c,[],10) else if c.sent /\ c.gen = gen then (c,[],12) else (⟨c.calls,c.at_,true,gen,[],c.got⟩,zcp ⟨me,c.at_,c.calls.getD c.at_.toNat ⟨0,0,0,0⟩⟩,0):=by
 unfold zcH
 rw [hb]

theorem znA {X : Type} {xs : List X} {n : Nat} {d : X} (h : n < xs.length) : xs.take (n + 1) = xs.take n ++ [xs.getD n d]:=by
 rw [List.take_add_one,List.getD_eq_getElem?_getD,List.getElem?_eq_getElem h]
 rfl

theorem zk8 : ∀ {n : Nat} {ks : List Nat},ks.Nodup -> (∀ k ∈ ks,k < n) -> ks.length <= n
 | 0,ks,_,h=>by
  cases ks with
  | nil=>exact Nat.le_refl _
  | cons k ks=>exact absurd (h k (by simp)) (by omega)
 | n + 1,ks,hd,h=>by
  have h1:=zk8 (n:=n) (ks:=ks.erase n) (hd.erase n) (fun k hk=>by
   have h2:=h k (List.mem_of_mem_erase hk)
   have h3 : k ≠ n:=fun e=>by subst e; exact absurd hk (hd.not_mem_erase)
   omega)
  by_cases hm : n ∈ ks
  ·have:=List.length_erase_of_mem hm
   omega
  ·rw [List.erase_of_not_mem hm] at h1
   omega

theorem zlI {l : List (List Cl)} (hl : zbF l) {m : Mc} {ks : List Nat} {bz : Option Nat} (h : MInv l m ks bz) (n : Int) : ∃ ks' bz',MInv l (doM m 1 n).1 ks' bz':=by
 unfold doM
 rw [if_pos rfl]
 by_cases hn : n < 0 ∨ (m.clients.length : Int) <= n
 ·rw [if_pos hn]; exact ⟨ks,bz,h⟩
 rw [if_neg hn]
 obtain ⟨i,rfl⟩ : ∃ i : Nat,n = (i : Int):=⟨n.toNat,by omega⟩
 simp only [Int.toNat_natCast]
 have hi : i < m.clients.length:=by omega
 have hil : i < l.length:=by rw [<- h.nc]; exact hi
 obtain ⟨c,hc⟩ : ∃ c,m.clients[i]? = some c:=⟨_,List.getElem?_eq_getElem hi⟩
 have hgd : m.clients.getD i (zbY []) = c:=by rw [List.getD_eq_getElem?_getD,hc]; rfl
 rw [hgd]
 have ci:=h.clients i c hc
 have h8 : (l.getD i []).length <= 8:=(hl.2 _ (ziZ hil)).1
 generalize hG : zcH c (i : Int) m.server.gen m.up = G
 have hsame : G.2.2 ≠ 0 -> ∃ ks' bz',MInv l (if G.2.2 ≠ 0 then (m,G.2.2) else if G.2.1 ≠ [] then if (zck m.server G.2.1).2 ≠ 0 then (m,(zck m.server G.2.1).2) else ({ m with server:=(zck m.server G.2.1).1,clients:=m.clients.set i G.1 },0) else ({ m with clients:=m.clients.set i G.1 },0)).1 ks' bz':=fun hne=>by
  rw [if_pos hne]; exact ⟨ks,bz,h⟩
 have hempty : c.box = [] -> i ∉ ks -> bz ≠ some i -> (c.sent = true -> m.up = true -> c.gen ≠ m.server.gen) ->
   ∃ ks' bz',MInv l (if G.2.2 ≠ 0 then (m,G.2.2) else if G.2.1 ≠ [] then if (zck m.server G.2.1).2 ≠ 0 then (m,(zck m.server G.2.1).2) else ({ m with server:=(zck m.server G.2.1).1,clients:=m.clients.set i G.1 },0) else ({ m with clients:=m.clients.set i G.1 },0)).1 ks' bz':=by
  intro hb hk hz hs
  rw [zhL hb] at hG
  by_cases hd : (c.calls.length : Int) <= c.at_
  ·rw [if_pos hd] at hG; exact hsame (by rw [<- hG]; simp)
  rw [if_neg hd] at hG
  by_cases hu : m.up = true
  case neg=>rw [if_pos hu] at hG; exact hsame (by rw [<- hG]; simp)
  rw [if_neg (fun x=>x hu)] at hG
  by_cases hw : c.sent = true /\ c.gen = m.server.gen
  ·rw [if_pos hw] at hG; exact hsame (by rw [<- hG]; simp)
  rw [if_neg hw] at hG
  have hcalls:=ci.calls
  have hat:=ci.at_
  have hlt : c.got.length < (l.getD i []).length:=by rw [<- hcalls]; omega
  have hreq : (⟨(i : Int),c.at_,c.calls.getD c.at_.toNat ⟨0,0,0,0⟩⟩ : Rq) = zcd l i c.got.length:=by
   unfold zcd
   rw [hcalls,hat]
   rfl
  rw [hreq] at hG
  subst hG
  have hks : ks.length < 3:=by
   have hsub : (i :: ks).Nodup:=List.nodup_cons.2 ⟨hk,h.nodup⟩
   have hle : (i :: ks).length <= l.length:=zk8 hsub (fun x hx=>by
    rcases List.mem_cons.1 hx with rfl | hx
    ·exact hil
    ·exact h.ksl x hx)
   have:=hl.1
   simp at hle
   omega
  have hbl : m.server.box.length = ks.length:=by rw [h.box,List.length_map]
  have hcome : zck m.server (zcp (zcd l i c.got.length)) = ({ m.server with box:=m.server.box ++ [zcp (zcd l i c.got.length)] },0):=by
   unfold zck
   rw [if_neg (by omega)]
  rw [if_neg (by simp),if_pos (by simp [zcp])]
  simp only []
  rw [hcome,if_neg (by simp)]
  refine ⟨ks ++ [i],bz,?_⟩
  have hgs:=fun k=>zgP (c':=(⟨c.calls,c.at_,true,m.server.gen,[],c.got⟩ : Cn)) hc rfl k
  exact {
   nc:=by show (m.clients.set i _).length = _; rw [List.length_set]; exact h.nc
   nodup:=by
    rw [List.nodup_append]
    refine ⟨h.nodup,by simp,fun x hx y hy e=>?_⟩
    simp at hy
    subst hy
    subst e
    exact hk hx
   ksl:=fun k hx=>by
    rcases List.mem_append.1 hx with hx | hx
    ·exact h.ksl k hx
    ·simp at hx; subst hx; exact hil
   box:=by
    show m.server.box ++ [zcp (zcd l i c.got.length)] = _
    rw [List.map_append,h.box]
    simp only [hgs]
    rw [List.map_cons,List.map_nil,zeb hc]
   busy:=h.busy
   idle:=fun hz=>by
    show ({ m.server with box:=m.server.box ++ [zcp (zcd l i c.got.length)] } : Sv) = zbG m.server.gen (m.server.box ++ [zcp (zcd l i c.got.length)])
    rw [h.idle hz]
    rfl
   work:=fun j hj=>by
    obtain ⟨w1,w2,w3,w4,w5⟩:=h.work j hj
    exact ⟨w1,by show m.server.now = zcd l j (zdi (m.clients.set i _) j); rw [hgs]; exact w2,w3,w4,w5⟩
   down:=fun hd=>absurd hd (by simp [hu])
   upp:=h.upp
   clean:=h.clean
   cells:=h.cells
   right:=h.right
   nm:=h.nm
   undo:=h.undo
   past:=h.past
   falls:=h.falls
   gens:=h.gens
   clients:=fun k d hd=>by
    rcases zj9 hc hd with ⟨rfl,rfl⟩ | ⟨hne,hd⟩
    ·exact ⟨hcalls,hat,ci.done,ci.most,ci.got,ci.step,ci.last,Int.le_refl _,.wait (by simp) hz rfl rfl rfl hlt⟩
    ·refine (h.clients k d hd).other rfl rfl rfl ?_ Iff.rfl
     simp [hne] }
 cases ci.phase with
 | rest a b d e f=>exact hempty e a b (fun x=>by rw [d] at x; cases x)
 | wait a b d e f g =>
  refine hsame ?_
  rw [<- hG,zhL f]
  have hcalls:=ci.calls
  have hat:=ci.at_
  rw [if_neg (by rw [hcalls,hat]; omega)]
  by_cases hu : m.up = true
  ·rw [if_neg (fun x=>x hu),if_pos ⟨d,e⟩]; simp
  ·rw [if_pos hu]; simp
 | work a b d e f g k =>
  refine hsame ?_
  rw [<- hG,zhL f]
  have hcalls:=ci.calls
  have hat:=ci.at_
  rw [if_neg (by rw [hcalls,hat]; omega)]
  by_cases hu : m.up = true
  ·rw [if_neg (fun x=>x hu),if_pos ⟨d,e⟩]; simp
  ·rw [if_pos hu]; simp
 | lost a b d e f g=>exact hempty e a b (fun _=>g)
 | hear a b d e f =>
  have htl:=zfW m.store.past i
  have hmost:=ci.most
  have hw:=zjC hl h.past hil (t:=c.got.length) (by omega) (by omega)
  rw [zmU f hw rfl ci.at_.symm d] at hG
  subst hG
  rw [if_neg (by simp),if_neg (by simp)]
  simp only []
  refine ⟨ks,bz,?_⟩
  have hgn : ∀ k,k ≠ i -> zdi (m.clients.set i (⟨c.calls,c.at_ + 1,false,c.gen,[],c.got ++ [(zcK m.store.past i).getD c.got.length ⟨0,0⟩]⟩ : Cn)) k = zdi m.clients k:=fun k hk=>zlx hk
  exact {
   nc:=by show (m.clients.set i _).length = _; rw [List.length_set]; exact h.nc
   nodup:=h.nodup
   ksl:=h.ksl
   box:=by
    show m.server.box = _
    rw [h.box]
    refine List.map_congr_left fun k hk=>?_
    rw [hgn k (fun e=>by subst e; exact a hk)]
   busy:=h.busy
   idle:=h.idle
   work:=fun j hj=>by
    obtain ⟨w1,w2,w3,w4,w5⟩:=h.work j hj
    exact ⟨w1,by show m.server.now = zcd l j (zdi (m.clients.set i _) j); rw [hgn j (fun e=>by subst e; exact b hj)]; exact w2,w3,w4,w5⟩
   down:=h.down
   upp:=h.upp
   clean:=h.clean
   cells:=h.cells
   right:=h.right
   nm:=h.nm
   undo:=h.undo
   past:=h.past
   falls:=h.falls
   gens:=h.gens
   clients:=fun k x hx=>by
    rcases zj9 hc hx with ⟨rfl,rfl⟩ | ⟨hne,hx⟩
    ·have hgl : (c.got ++ [(zcK m.store.past k).getD c.got.length ⟨0,0⟩]).length = c.got.length + 1:=by simp
     refine ⟨ci.calls,?_,ci.done,ci.most,?_,.inl ?_,ci.last,ci.hgen,.rest a b rfl rfl ?_⟩
     ·show c.at_ + 1 = _; rw [hgl,ci.at_]; omega
     ·show c.got ++ _ = _
      rw [hgl,znA (by omega : c.got.length < (zcK m.store.past k).length),<- ci.got]
     ·show _ = List.length _; rw [hgl]; exact e
     ·show _ = List.length _; rw [hgl]; exact e
    ·exact h.clients k x hx }
end Go.Mk

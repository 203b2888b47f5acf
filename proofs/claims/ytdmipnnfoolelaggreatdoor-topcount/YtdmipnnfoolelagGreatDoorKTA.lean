/- zbb of the proof, merged: Zq Mono Mem. -/
import Derived.Lib.Hide
import Derived.Still
import Derived.StillTail
import Derived.Below
import Derived.WalkKit
import Derived.WalkSpells
import Derived.WalkLawsBesides
import Derived.Laws.CopyOwn
import Derived.Deep.Draws

namespace Go.RowKit
theorem Hid.o {p:Prop} (h:Hid p):p:=h
end Go.RowKit
namespace Go.Mk
open Go Go.RowKit
theorem zhd {p:Prop} (h:p):Hid p:=h
open Go Go.RowKit

def Ext (w w':World):Prop:=Below w.heap.size w w'
theorem Ext.refl (w:World):Ext w w:=Below.refl _ _
theorem Ext.trans {a b c:World} (h:Ext a b) (k:Ext b c):Ext a c:=Below.trans h (Below.mono k h.size)
theorem Ext.drew {a w:World} (h:Ext a w):Ext a w.drew:=Below.drew h
theorem Ext.cell {w w':World} (h:Ext w w') {p:Addr} {v:Value} (hp:w.cell? p=some v):w'.cell? p=some v:=by
 by_cases hb:p.block < w.heap.size
 ·rw [Below.cell h hb]; exact hp
 ·simp [World.cell?,Array.getElem?_eq_none (Nat.le_of_not_lt hb)] at hp

abbrev Fm:=Tmp->World->Prop
def upd (F:Fm) (d:Option Tmp) (φ:World->Prop):Fm:=fun t w=>if d=some t then φ w else F t w
def zf4 (F:Fm) (ops:Array Oper) (o:Oper) (w:World):Prop:=∀ t ∈ o.looksAt ops,F t w
def zb9 (φ:World->Prop):Prop:=∀ w w',Ext w w'->φ w->φ w'

abbrev zdg:=Option (Value ⊕ (Value->World->Prop))

section
variable (P:Program) (w0:World) (ops:Array Oper) (kd:Nat->zdg)

def zeZ (w:World) (T:Value->World->Prop):Result Next->Prop
 | .ok (.value v) w'=>Ext w w'/\T v w'
 | .ok .skip w'=>Ext w w'/\T undef w'
 | .ok (.enter f args) w'=>Ext w w'/\Calls P f args w' (fun e w''=>∃ v,e=.returned v/\Ext w' w''/\T v w'')
 | _=>False
def za0 (o:Oper) (a:Act) (w:World) (T:Value->World->Prop):Prop:=zeZ P w T ((execOp a.eval o).run P w)

def OkK (k:zdg) (o:Oper) (a:Act) (F:Fm):Prop :=
 match k with
 | none=>∃ c,∀ w,Ext w0 w->(execOp a.eval o).run P w=.ok (.value c) w
 | some (.inl c)=>∀ w,Ext w0 w->zf4 F ops o w->za0 P o a w (fun v _=>v=c)
 | some (.inr T)=>∀ w,Ext w0 w->zf4 F ops o w->za0 P o a w T

def ztr (k:zdg) (o:Oper) (a:Act) (v:Value) (φ:World->Prop):Prop :=
 match k with
 | none=>(∀ w,Ext w0 w->(execOp a.eval o).run P w=.ok (.value v) w)/\φ=fun _=>True
 | some (.inl c)=>v=c/\φ=fun _=>True
 | some (.inr T)=>φ=T v

def OkO (k:zdg) (o:Oper) (a:Act) (F:Fm):Prop :=
 Region.wanted o (yielded ops a.tmps)=true->OkK P w0 ops k o a F
def zfo (k:zdg) (o:Oper) (a:Act) (v:Value) (φ:World->Prop):Prop :=
 (Region.wanted o (yielded ops a.tmps)=true/\ztr P w0 k o a v φ)∨(Region.wanted o (yielded ops a.tmps)=false/\v=undef/\φ=fun _=>True)

def opM (i:Nat) (K:Act->Fm->Prop) (a:Act) (F:Fm):Prop :=
 match ops[i]? with
 | none=>K a F
 | some o=>OkO P w0 ops (kd i) o a F/\∀ v φ,zfo P w0 ops (kd i) o a v φ->K (a.put o.dst v) (upd F o.dst φ)

def zqH (Q:Act->Fm->Prop):Nat->Array Bool->Act->Fm->Prop
 | 0,listed,a,F=>Region.ready .any ops listed=[]/\Q a F
 | fuel+1,listed,a,F =>
  (Region.ready .any ops listed=[]->Q a F) /\
  ∀ i ∈ Region.ready .any ops listed,opM P w0 ops kd i (zqH Q fuel (listed.setIfInBounds i true)) a F

end

section
variable {P:Program} {w0:World} {ops:Array Oper} {kd:Nat->zdg}

theorem zkK {F:Fm} {o:Oper} {d:Option Tmp} {φ:World->Prop} (h:∀ t,d=some t->t ∉ o.looksAt ops):zf4 (upd F d φ) ops o=zf4 F ops o:=by
 funext w
 apply propext
 constructor
 ·intro hk t ht
  have:=hk t ht
  unfold upd at this
  rwa [if_neg (fun e=>h t e ht)] at this
 ·intro hk t ht
  unfold upd
  rw [if_neg (fun e=>h t e ht)]
  exact hk t ht

theorem zmN {k:zdg} {o:Oper} {a a':Act} {F F':Fm} (he:execOp a'.eval o=execOp a.eval o) (hF:zf4 F' ops o=zf4 F ops o) (h:OkK P w0 ops k o a F):OkK P w0 ops k o a' F':=by
 unfold OkK za0 at *
 rw [he,hF]
 exact h

theorem zkC {k:zdg} {o:Oper} {a a':Act} {v:Value} {φ:World->Prop} (he:execOp a'.eval o=execOp a.eval o) (h:ztr P w0 k o a v φ):ztr P w0 k o a' v φ:=by
 unfold ztr at *
 rw [he]
 exact h

theorem zjx (F:Fm) {x y:Option Tmp} (φ ψ:World->Prop) (h:∀ d,x=some d->y≠some d):upd (upd F x φ) y ψ=upd (upd F y ψ) x φ:=by
 funext t w
 unfold upd
 by_cases h1:x=some t
 ·have h2:y≠some t:=h t h1
  simp [h1,h2]
 ·simp [h1]

theorem zfs {k:zdg} {o:Oper} {a:Act} {F:Fm} (h:OkO P w0 ops k o a F):∃ v φ,zfo P w0 ops k o a v φ:=by
 by_cases hw:Region.wanted o (yielded ops a.tmps)=true
 ·have hk:=h hw
  match k with
  | none=>obtain ⟨c,hc⟩:=hk; exact ⟨c,_,.inl ⟨hw,hc,rfl⟩⟩
  | some (.inl c)=>exact ⟨c,_,.inl ⟨hw,rfl,rfl⟩⟩
  | some (.inr T)=>exact ⟨undef,_,.inl ⟨hw,rfl⟩⟩
 ·exact ⟨undef,_,.inr ⟨by simpa using hw,rfl,rfl⟩⟩

theorem zfg {k:zdg} {o:Oper} {a:Act} {F:Fm} {d:Option Tmp} {v:Value} {φ:World->Prop} (hs:∀ cs b,o.op≠.select cs b) (h:∀ t,d=some t->t ∉ o.looksAt ops) :
  OkO P w0 ops k o (a.put d v) (upd F d φ)↔OkO P w0 ops k o a F:=by
 unfold OkO
 rw [wanted_put o a d v h]
 have he:=execOp_put (ops:=ops) o hs a d v h
 have hk:=zkK (ops:=ops) (F:=F) (φ:=φ) h
 exact ⟨fun x y=>zmN he.symm hk.symm (x y),fun x y=>zmN he hk (x y)⟩

theorem zem {k:zdg} {o:Oper} {a:Act} {d:Option Tmp} {v u:Value} {ψ:World->Prop} (hs:∀ cs b,o.op≠.select cs b) (h:∀ t,d=some t->t ∉ o.looksAt ops) :
  zfo P w0 ops k o (a.put d v) u ψ↔zfo P w0 ops k o a u ψ:=by
 unfold zfo
 rw [wanted_put o a d v h]
 have he:=execOp_put (ops:=ops) o hs a d v h
 constructor
 ·rintro (x | x)
  ·exact .inl ⟨x.1,zkC he.symm x.2⟩
  ·exact .inr x
 ·rintro (x | x)
  ·exact .inl ⟨x.1,zkC he x.2⟩
  ·exact .inr x

theorem zoY {Q:Act->Fm->Prop} {i:Nat} {oi:Oper} (hi:ops[i]?=some oi) (hsel:∀ (j:Nat) (o:Oper) cs b,ops[j]?=some o->o.op≠.select cs b) :
  ∀ (fuel:Nat) (listed:Array Bool) (a:Act) (F:Fm),
   (∀ j oj,ops[j]?=some oj->j≠i->listed.getD j true=false->(∀ e ∈ oj.after,Region.binds .any e=true->e.on≠i)->oi.apart ops oj=true) ->
   i ∈ Region.ready .any ops listed->OkO P w0 ops (kd i) oi a F ->
   (∀ v φ,zfo P w0 ops (kd i) oi a v φ->zqH P w0 ops kd Q fuel (listed.setIfInBounds i true) (a.put oi.dst v) (upd F oi.dst φ)) ->
   zqH P w0 ops kd Q (fuel+1) listed a F:=by
 intro fuel
 induction fuel with
 | zero =>
  intro listed a F _ hr hok H
  refine ⟨fun h=>(by rw [h] at hr; cases hr),fun j hj=>?_⟩
  by_cases hji:j=i
  ·subst hji
   unfold opM
   rw [hi]
   exact ⟨hok,H⟩
  ·have:=ready_mono hj hji
   obtain ⟨v,φ,hv⟩:=zfs hok
   rw [(H v φ hv).1] at this
   cases this
 | succ fuel ih =>
  intro listed a F hfree hr hok H
  refine ⟨fun h=>(by rw [h] at hr; cases hr),fun j hj=>?_⟩
  by_cases hji:j=i
  ·subst hji
   unfold opM
   rw [hi]
   exact ⟨hok,H⟩
  ·obtain ⟨hjun,oj,hoj,hall⟩:=mem_ready.1 hj
   have hnot:∀ e ∈ oj.after,Region.binds .any e=true->e.on≠i:=fun e he hb heq=>by
    have h1:=hall e he hb
    have h0:=(mem_ready.1 hr).1
    rw [heq] at h1
    rcases Nat.lt_or_ge i listed.size with h' | h'
    ·simp [h'] at h0 h1; rw [h0] at h1; cases h1
    ·simp [Array.getElem?_eq_none h'] at h1
   obtain ⟨a1,a2,a3⟩:=Oper.apart_spec (hfree j oj hoj hji hjun hnot)
   have hsi:∀ cs b,oi.op≠.select cs b:=fun cs b=>hsel i oi cs b hi
   have hsj:∀ cs b,oj.op≠.select cs b:=fun cs b=>hsel j oj cs b hoj
   have hfree':∀ k ok,ops[k]?=some ok->k≠i->(listed.setIfInBounds j true).getD k true=false ->
     (∀ e ∈ ok.after,Region.binds .any e=true->e.on≠i)->oi.apart ops ok=true:=fun k ok hk hki hun hno=>by
    refine hfree k ok hk hki ?_ hno
    by_cases hjk:j=k
    ·subst hjk; exact hjun
    ·rw [getD_set_ne true hjk] at hun; exact hun
   have at_j:∀ v φ,zfo P w0 ops (kd i) oi a v φ->OkO P w0 ops (kd j) oj (a.put oi.dst v) (upd F oi.dst φ) /\
     ∀ u ψ,zfo P w0 ops (kd j) oj (a.put oi.dst v) u ψ ->
      zqH P w0 ops kd Q fuel ((listed.setIfInBounds i true).setIfInBounds j true) ((a.put oi.dst v).put oj.dst u) (upd (upd F oi.dst φ) oj.dst ψ):=fun v φ hv=>by
    have:=(H v φ hv).2 j (ready_mono hj hji)
    unfold opM at this
    rw [hoj] at this
    exact this
   unfold opM
   rw [hoj]
   refine ⟨?_,fun u ψ hu=>?_⟩
   ·obtain ⟨v,φ,hv⟩:=zfs hok
    exact (zfg hsj a1).1 (at_j v φ hv).1
   ·refine ih (listed.setIfInBounds j true) _ _ hfree' (ready_mono hr (Ne.symm hji)) ((zfg hsi a3).2 hok) fun v φ hv=>?_
    have hv':=(zem hsi a3).1 hv
    have:=(at_j v φ hv').2 u ψ ((zem hsj a1).2 hu)
    rw [Array.setIfInBounds_comm _ _ hji,<- Act.put_comm a v u a2,<- zjx F φ ψ a2]
    exact this

def wpM (P:Program) (w0:World) (ops:Array Oper) (Q:Act->Fm->Prop):List Oper->List zdg->Act->Fm->Prop
 | [],_,a,F=>Q a F
 | o::l,ks,a,F=>OkO P w0 ops (ks.headD none) o a F/\∀ v φ,zfo P w0 ops (ks.headD none) o a v φ->wpM P w0 ops Q l ks.tail (a.put o.dst v) (upd F o.dst φ)

theorem znh {Q:Act->Fm->Prop} (hs:Region.noSelect ops=true) (K:List zdg):∀ (l:List Oper) (ks:List zdg) (k:Nat) (listed:Array Bool) (a:Act) (F:Fm),(∀ j,l[j]?=ops[k+j]?)->(ks=K.drop k) ->
  Region.lexFrom .any ops l.length k listed=true->wpM P w0 ops Q l ks a F->zqH P w0 ops (fun i=>K.getD i none) Q l.length listed a F
 | [],_,_,_,_,_,_,_,hB,h=>⟨by simpa [Region.lexFrom] using hB,h⟩
 | o::l,ks,k,listed,a,F,hl,hk,hB,h=>by
  have h0:ops[k]?=some o:=by simpa using (hl 0).symm
  simp only [List.length_cons,Region.lexFrom,Bool.and_eq_true] at hB
  obtain ⟨⟨hr,hf⟩,hB'⟩:=hB
  have hd:ks.headD none=K.getD k none:=by
   rw [hk,List.headD_eq_head?_getD,List.head?_drop,List.getD_eq_getElem?_getD]
  obtain ⟨hok,hrest⟩:=h
  rw [hd] at hok hrest
  exact zoY h0 (Region.noSelect_spec hs) l.length listed a F (Region.free_spec h0 hf) (by simpa using hr) hok fun v φ hv =>
   znh hs K l ks.tail (k+1) _ _ _ (fun j=>by have:=hl (j+1); simpa [Nat.add_assoc,Nat.add_comm 1 j] using this) (by rw [hk]; simp) hB' (hrest v φ hv)

theorem zez {Q:Act->Fm->Prop} {Q':Exit->Act->World->Prop} (hT:∀ i T,kd i=some (.inr T)->∀ v,zb9 (T v))
  (hQ:∀ a F w,Ext w0 w->(∀ t,F t w)->Q a F->Q' .normal a w):∀ (fuel:Nat) (listed:Array Bool) (a:Act) (F:Fm) (w:World),Ext w0 w->(∀ t,F t w)->(∀ t,zb9 (F t)) ->
  zqH P w0 ops kd Q fuel listed a F->wpAny P .any ops Q' fuel listed a w
 | 0,_,_,_,_,hw,hF,_,h=>⟨h.1,hQ _ _ _ hw hF h.2⟩
 | fuel+1,listed,a,F,w,hw,hF,hM,h=>by
  refine ⟨fun h0=>hQ _ _ _ hw hF (h.1 h0),fun i hi=>?_⟩
  have hi':=h.2 i hi
  unfold opM at hi'
  unfold wpOp
  cases ho:ops[i]? with
  | none=>rw [ho] at hi'; exact zez hT hQ fuel _ _ _ _ hw hF hM hi'
  | some o =>
   rw [ho] at hi'
   obtain ⟨hok,hnext⟩:=hi'
   simp only []
   by_cases hwt:Region.wanted o (yielded ops a.tmps)=true
   ·rw [if_pos hwt]
    refine .inl ?_
    have hk:=hok hwt
    have hkn:zf4 F ops o w:=fun t _=>hF t
    unfold OkK at hk
    -- what is known stays known
    have go:∀ (v:Value) (φ:World->Prop) (w':World),Ext w w'->φ w'->zb9 φ->zfo P w0 ops (kd i) o a v φ->wpAny P .any ops Q' fuel (listed.setIfInBounds i true) (a.put o.dst v) w':=fun v φ w' he hφ hm hv=>by
     refine zez hT hQ fuel _ _ _ _ (hw.trans he) ?_ ?_ (hnext v φ hv)
     ·intro t
      unfold upd
      split
      ·exact hφ
      ·exact hM t _ _ he (hF t)
     ·intro t w1 w2 h12
      unfold upd
      split
      ·exact hm _ _ h12
      ·exact hM t _ _ h12
    have loud:∀ T:Value->World->Prop,(∀ v,zb9 (T v))->(∀ v w',Ext w w'->T v w'->wpAny P .any ops Q' fuel (listed.setIfInBounds i true) (a.put o.dst v) w')->za0 P o a w T->o.wp P a w (wpAny P .any ops Q' fuel (listed.setIfInBounds i true)) Q':=fun T _ hgo hmk=>by
     unfold za0 at hmk
     unfold Oper.wp
     generalize (execOp a.eval o).run P w=r at *
     cases r with
     | ok n w' =>
      cases n <;> simp only [zeZ] at hmk <;> simp only [Oper.upon]
      case value u=>exact hgo u w' hmk.1 hmk.2
      case skip=>exact hgo _ w' hmk.1 hmk.2
      case enter f args =>
       refine Calls.mono hmk.2 fun e w'' he=>?_
       obtain ⟨v,rfl,h2,h3⟩:=he
       exact hgo v w'' (hmk.1.trans h2) h3
     | halt x w'=>simp only [zeZ] at hmk
    cases hkd:kd i with
    | none =>
     rw [hkd] at hk
     obtain ⟨c,hc⟩:=hk
     unfold Oper.wp
     rw [hc w hw]
     simp only [Oper.upon]
     exact go c (fun _=>True) w (Ext.refl _) trivial (fun _ _ _ h=>h) (.inl ⟨hwt,by rw [hkd]; exact ⟨hc,rfl⟩⟩)
    | some s =>
     cases s with
     | inl c =>
      rw [hkd] at hk
      refine loud _ (fun v w1 w2 _ h=>h) (fun v w' he hv=>?_) (hk w hw hkn)
      subst hv
      exact go _ (fun _=>True) w' he trivial (fun _ _ _ h=>h) (.inl ⟨hwt,by rw [hkd]; exact ⟨rfl,rfl⟩⟩)
     | inr T =>
      rw [hkd] at hk
      exact loud T (hT i T hkd) (fun v w' he hv=>go v (T v) w' he hv (hT i T hkd v) (.inl ⟨hwt,by rw [hkd]; rfl⟩)) (hk w hw hkn)
   ·rw [if_neg hwt]
    refine zez hT hQ fuel _ _ _ _ hw ?_ ?_ (hnext undef (fun _=>True) (.inr ⟨by simpa using hwt,rfl,rfl⟩))
    ·intro t
     unfold upd
     split
     ·trivial
     ·exact hF t
    ·intro t w1 w2 h12
     unfold upd
     split
     ·exact id
     ·exact hM t _ _ h12

section steps
variable {Q:Act->Fm->Prop} {o:Oper} {l:List Oper} {ks:List zdg} {a:Act} {F:Fm}

theorem za5 (h:Q a F):wpM P w0 ops Q [] ks a F:=h

theorem zat (h:∀ K:Act->Prop,(∀ a',wpM P w0 ops Q l ks a' (upd F o.dst (fun _=>True))->K a') ->
  if Region.wanted o (yielded ops a.tmps) then ∃ c,(∀ w,(execOp a.eval o).run P w=.ok (.value c) w)/\K (a.put o.dst c) else K (a.put o.dst undef)):wpM P w0 ops Q (o::l) (none::ks) a F:=by
 have h:=h _ (fun _ h=>h)
 by_cases hw:Region.wanted o (yielded ops a.tmps)=true
 ·rw [if_pos hw] at h
  obtain ⟨c,hc,hk⟩:=h
  refine ⟨fun _=>⟨c,fun w _=>hc w⟩,fun v φ hv=>?_⟩
  rcases hv with ⟨_,hv,rfl⟩ | ⟨hn,_,_⟩
  ·have:=hv w0 (Ext.refl _)
   rw [hc] at this
   cases this
   exact hk
  ·rw [hw] at hn; cases hn
 ·rw [if_neg hw] at h
  refine ⟨fun h'=>absurd h' hw,fun v φ hv=>?_⟩
  rcases hv with ⟨hn,_⟩ | ⟨_,rfl,rfl⟩
  ·exact absurd hn hw
  ·exact h

theorem zaK (c:Value) (hw:Region.wanted o (yielded ops a.tmps)=true) (hc:∀ w,Ext w0 w->(execOp a.eval o).run P w=.ok (.value c) w) (hk:wpM P w0 ops Q l ks (a.put o.dst c) (upd F o.dst (fun _=>True))) :
  wpM P w0 ops Q (o::l) (none::ks) a F:=by
 refine ⟨fun _=>⟨c,hc⟩,fun v φ hv=>?_⟩
 rcases hv with ⟨_,hv,rfl⟩ | ⟨hn,_,_⟩
 ·have:=hv w0 (Ext.refl _)
  rw [hc _ (Ext.refl _)] at this
  cases this
  exact hk
 ·rw [hw] at hn; cases hn

theorem zho (c:Value) (hw:Region.wanted o (yielded ops a.tmps)=true) (hc:∀ w,Ext w0 w->zf4 F ops o w->za0 P o a w (fun v _=>v=c)) (hk:wpM P w0 ops Q l ks (a.put o.dst c) (upd F o.dst (fun _=>True))) :
  wpM P w0 ops Q (o::l) (some (.inl c)::ks) a F:=by
 refine ⟨fun _=>hc,fun v φ hv=>?_⟩
 rcases hv with ⟨_,rfl,rfl⟩ | ⟨hn,_,_⟩
 ·exact hk
 ·rw [hw] at hn; cases hn

theorem zbq (T:Value->World->Prop) (hw:Region.wanted o (yielded ops a.tmps)=true) (hc:∀ w,Ext w0 w->zf4 F ops o w->za0 P o a w T) (hk:∀ v,wpM P w0 ops Q l ks (a.put o.dst v) (upd F o.dst (T v))) :
  wpM P w0 ops Q (o::l) (some (.inr T)::ks) a F:=by
 refine ⟨fun _=>hc,fun v φ hv=>?_⟩
 rcases hv with ⟨_,rfl⟩ | ⟨hn,_,_⟩
 ·exact hk v
 ·rw [hw] at hn; cases hn

end steps

def zsk:zdg->Prop
 | some (.inr T)=>∀ v,zb9 (T v)
 | _=>True

def zhF:List zdg->Prop
 | []=>True
 | k::K=>zsk k/\zhF K
theorem zeH:∀ {K:List zdg},zhF K->∀ k ∈ K,zsk k
 | [],_,k,hk=>by cases hk
 | _::_,h,k,hk=>by
  rcases List.mem_cons.1 hk with rfl | hk
  ·exact h.1
  ·exact zeH h.2 k hk

theorem zbU {id:Nat} {Q:Exit->Act->World->Prop} {a:Act} {w:World} {l:List Oper} (K:List zdg) (hm:P.follows .mixedOrders=true) (hB:Region.lexB .any l.toArray=true)
  (hT:zhF K)
  (h:wpM P w l.toArray (fun a' F=>∀ w',Ext w w'->(∀ t,F t w')->Q .normal a' w') l K a (fun _ _=>True)):(Code.region id l.toArray true).wp P Q a w:=by
 replace hT:=zeH hT
 simp only [Region.lexB,Bool.and_eq_true] at hB
 refine wp_region_any hm (zez (w0:=w) (kd:=fun i=>K.getD i none) (Q:=fun a' F=>∀ w',Ext w w'->(∀ t,F t w')->Q .normal a' w') ?_ (fun a F w' hw hF h=>h w' hw hF) _ _ _ (fun _ _=>True) _ ((Ext.refl w).drew) (fun _=>trivial) (fun _ _ _ _ h=>h) ?_)
 ·intro i T hi v
  have hmem:some (Sum.inr T) ∈ K:=by
   rw [List.getD_eq_getElem?_getD] at hi
   cases hx:K[i]? with
   | none=>rw [hx] at hi; cases hi
   | some y=>rw [hx] at hi; simp at hi; subst hi; exact List.mem_of_getElem? hx
  exact hT _ hmem v
 ·have:=znh (P:=P) (w0:=w) (ops:=l.toArray) hB.1 K l K 0 (Array.replicate l.toArray.size false) a (fun _ _=>True) (by simp) (by simp) (by simpa using hB.2) h
  simpa using this

/-! ### A region whose last operations are forced, one behind the other, and come behind all others: these may write. -/

def zk8 (P:Program) (w0:World) (ops:Array Oper) (kd:Nat->zdg) (n:Nat) (L:Array Bool->Act->Fm->Prop):Nat->Array Bool->Act->Fm->Prop
 | 0,listed,a,F=>L listed a F
 | f+1,listed,a,F =>
  Region.ready .any ops listed≠[]/\∀ i ∈ Region.ready .any ops listed,i < n/\opM P w0 ops kd i (zk8 P w0 ops kd n L f (listed.setIfInBounds i true)) a F

theorem zm8 {n i:Nat} {oi:Oper} {L:Array Bool->Act->Fm->Prop} (hi:ops[i]?=some oi) (hsel:∀ (j:Nat) (o:Oper) cs b,ops[j]?=some o->o.op≠.select cs b)
  (hs:Region.sinkB .any ops n=true) (hc:Region.chainB .any ops n=true) (hn:n < ops.size) (hin:i < n)
  (hdone:∀ listed a F,L listed a F->∀ j ∈ Region.ready .any ops listed,n<=j) :
  ∀ (f:Nat) (listed:Array Bool) (a:Act) (F:Fm),HeadInv .any ops n listed ->
   (∀ j oj,ops[j]?=some oj->j≠i->listed.getD j true=false->(∀ e ∈ oj.after,Region.binds .any e=true->e.on≠i)->oi.apart ops oj=true) ->
   i ∈ Region.ready .any ops listed->OkO P w0 ops (kd i) oi a F ->
   (∀ v φ,zfo P w0 ops (kd i) oi a v φ->zk8 P w0 ops kd n L f (listed.setIfInBounds i true) (a.put oi.dst v) (upd F oi.dst φ)) ->
   zk8 P w0 ops kd n L (f+1) listed a F:=by
 intro f
 induction f with
 | zero =>
  intro listed a F inv _ hr hok H
  have hun:=(mem_ready.1 hr).1
  refine ⟨fun h=>(by rw [h] at hr; cases hr),fun j hj=>?_⟩
  have hjn:j < n:=by
   rcases Nat.lt_or_ge j n with h | h
   ·exact h
   ·exact absurd hj (tail_waits hs hc hn inv _ i rfl hin hun j h)
  refine ⟨hjn,?_⟩
  by_cases hji:j=i
  ·subst hji
   unfold opM
   rw [hi]
   exact ⟨hok,H⟩
  ·obtain ⟨v,φ,hv⟩:=zfs hok
   have:=hdone _ _ _ (H v φ hv) j (ready_mono hj hji)
   omega
 | succ f ih =>
  intro listed a F inv hfree hr hok H
  have hun:=(mem_ready.1 hr).1
  refine ⟨fun h=>(by rw [h] at hr; cases hr),fun j hj=>?_⟩
  have hjn:j < n:=by
   rcases Nat.lt_or_ge j n with h | h
   ·exact h
   ·exact absurd hj (tail_waits hs hc hn inv _ i rfl hin hun j h)
  refine ⟨hjn,?_⟩
  by_cases hji:j=i
  ·subst hji
   unfold opM
   rw [hi]
   exact ⟨hok,H⟩
  ·obtain ⟨hjun,oj,hoj,hall⟩:=mem_ready.1 hj
   have hnot:∀ e ∈ oj.after,Region.binds .any e=true->e.on≠i:=fun e he hb heq=>by
    have h1:=hall e he hb
    rw [heq,getD_both hun] at h1
    cases h1
   obtain ⟨a1,a2,a3⟩:=Oper.apart_spec (hfree j oj hoj hji hjun hnot)
   have hsi:∀ cs b,oi.op≠.select cs b:=fun cs b=>hsel i oi cs b hi
   have hsj:∀ cs b,oj.op≠.select cs b:=fun cs b=>hsel j oj cs b hoj
   have hfree':∀ k ok,ops[k]?=some ok->k≠i->(listed.setIfInBounds j true).getD k true=false ->
     (∀ e ∈ ok.after,Region.binds .any e=true->e.on≠i)->oi.apart ops ok=true:=fun k ok hk hki hun hno=>by
    refine hfree k ok hk hki ?_ hno
    by_cases hjk:j=k
    ·subst hjk; exact hjun
    ·rw [getD_set_ne true hjk] at hun; exact hun
   have at_j:∀ v φ,zfo P w0 ops (kd i) oi a v φ->OkO P w0 ops (kd j) oj (a.put oi.dst v) (upd F oi.dst φ) /\
     ∀ u ψ,zfo P w0 ops (kd j) oj (a.put oi.dst v) u ψ ->
      zk8 P w0 ops kd n L f ((listed.setIfInBounds i true).setIfInBounds j true) ((a.put oi.dst v).put oj.dst u) (upd (upd F oi.dst φ) oj.dst ψ):=fun v φ hv=>by
    have:=((H v φ hv).2 j (ready_mono hj hji)).2
    unfold opM at this
    rw [hoj] at this
    exact this
   unfold opM
   rw [hoj]
   refine ⟨?_,fun u ψ hu=>?_⟩
   ·obtain ⟨v,φ,hv⟩:=zfs hok
    exact (zfg hsj a1).1 (at_j v φ hv).1
   ·refine ih (listed.setIfInBounds j true) _ _ (inv.set hj hjn) hfree' (ready_mono hr (Ne.symm hji)) ((zfg hsi a3).2 hok) fun v φ hv=>?_
    have hv':=(zem hsi a3).1 hv
    have:=(at_j v φ hv').2 u ψ ((zem hsj a1).2 hu)
    rw [Array.setIfInBounds_comm _ _ hji,<- Act.put_comm a v u a2,<- zjx F φ ψ a2]
    exact this

theorem zkY {n g:Nat} {Lq:Act->Fm->Prop} (K:List zdg) (hsel:Region.noSelect ops=true) (hs:Region.sinkB .any ops n=true) (hc:Region.chainB .any ops n=true) (hn:n < ops.size) :
  ∀ (l:List Oper) (ks:List zdg) (k:Nat) (listed:Array Bool) (a:Act) (F:Fm),(∀ j,j < l.length->l[j]?=ops[k+j]?)->(ks=K.drop k)->k+l.length=n->HeadInv .any ops n listed ->
  Region.lexHead .any ops g l.length k listed=true->wpM P w0 ops Lq l ks a F ->
  zk8 P w0 ops (fun i=>K.getD i none) n (fun listed' a' F'=>Region.seqB .any ops g n listed'=true/\Lq a' F') l.length listed a F
 | [],_,k,listed,a,F,_,_,hk,_,hB,h=>by
  have:k=n:=by simpa using hk
  subst this
  exact ⟨by simpa [Region.lexHead] using hB,h⟩
 | o::l,ks,k,listed,a,F,hl,hks,hk,inv,hB,h=>by
  have h0:ops[k]?=some o:=by simpa using (hl 0 (by simp)).symm
  simp only [List.length_cons,Region.lexHead,Bool.and_eq_true] at hB
  obtain ⟨⟨hr,hf⟩,hB'⟩:=hB
  have hkn:k < n:=by simp only [List.length_cons] at hk; omega
  have hr':k ∈ Region.ready .any ops listed:=by simpa using hr
  have hd:ks.headD none=K.getD k none:=by
   rw [hks,List.headD_eq_head?_getD,List.head?_drop,List.getD_eq_getElem?_getD]
  obtain ⟨hok,hrest⟩:=h
  rw [hd] at hok hrest
  exact zm8 h0 (Region.noSelect_spec hsel) hs hc hn hkn (fun listed' a' F' hL=>seqB_ready hL.1) l.length listed a F inv (Region.free_spec h0 hf) hr' hok fun v φ hv =>
   zkY K hsel hs hc hn l ks.tail (k+1) _ _ _ (fun j hj=>by have:=hl (j+1) (by simp; omega); simpa [Nat.add_assoc,Nat.add_comm 1 j] using this) (by rw [hks]; simp) (by simp only [List.length_cons] at hk; omega) (inv.set hr' hkn) hB' (hrest v φ hv)

theorem zkB {i:Nat} {K:Act->Fm->Prop} {K':Act->World->Prop} {Q':Exit->Act->World->Prop} {a:Act} {F:Fm} {w:World} (hT:∀ i T,kd i=some (.inr T)->∀ v,zb9 (T v))
  (hw:Ext w0 w) (hF:∀ t,F t w) (hM:∀ t,zb9 (F t)) (hK:∀ a F w,Ext w0 w->(∀ t,F t w)->(∀ t,zb9 (F t))->K a F->K' a w)
  (hi':opM P w0 ops kd i K a F):wpOp P ops Q' i K' a w:=by
 unfold opM at hi'
 unfold wpOp
 cases ho:ops[i]? with
 | none=>rw [ho] at hi'; exact hK _ _ _ hw hF hM hi'
 | some o =>
  rw [ho] at hi'
  obtain ⟨hok,hnext⟩:=hi'
  simp only []
  by_cases hwt:Region.wanted o (yielded ops a.tmps)=true
  ·rw [if_pos hwt]
   refine .inl ?_
   have hk:=hok hwt
   have hkn:zf4 F ops o w:=fun t _=>hF t
   unfold OkK at hk
   have go:∀ (v:Value) (φ:World->Prop) (w':World),Ext w w'->φ w'->zb9 φ->zfo P w0 ops (kd i) o a v φ->K' (a.put o.dst v) w':=fun v φ w' he hφ hm hv=>by
    refine hK _ _ _ (hw.trans he) ?_ ?_ (hnext v φ hv)
    ·intro t
     unfold upd
     split
     ·exact hφ
     ·exact hM t _ _ he (hF t)
    ·intro t w1 w2 h12
     unfold upd
     split
     ·exact hm _ _ h12
     ·exact hM t _ _ h12
   have loud:∀ T:Value->World->Prop,(∀ v w',Ext w w'->T v w'->K' (a.put o.dst v) w')->za0 P o a w T->o.wp P a w K' Q':=fun T hgo hmk=>by
    unfold za0 at hmk
    unfold Oper.wp
    generalize (execOp a.eval o).run P w=r at *
    cases r with
    | ok n w' =>
     cases n <;> simp only [zeZ] at hmk <;> simp only [Oper.upon]
     case value u=>exact hgo u w' hmk.1 hmk.2
     case skip=>exact hgo _ w' hmk.1 hmk.2
     case enter f args =>
      refine Calls.mono hmk.2 fun e w'' he=>?_
      obtain ⟨v,rfl,h2,h3⟩:=he
      exact hgo v w'' (hmk.1.trans h2) h3
    | halt x w'=>simp only [zeZ] at hmk
   cases hkd:kd i with
   | none =>
    rw [hkd] at hk
    obtain ⟨c,hc⟩:=hk
    unfold Oper.wp
    rw [hc w hw]
    simp only [Oper.upon]
    exact go c (fun _=>True) w (Ext.refl _) trivial (fun _ _ _ h=>h) (.inl ⟨hwt,by rw [hkd]; exact ⟨hc,rfl⟩⟩)
   | some s =>
    cases s with
    | inl c =>
     rw [hkd] at hk
     refine loud _ (fun v w' he hv=>?_) (hk w hw hkn)
     subst hv
     exact go _ (fun _=>True) w' he trivial (fun _ _ _ h=>h) (.inl ⟨hwt,by rw [hkd]; exact ⟨rfl,rfl⟩⟩)
    | inr T =>
     rw [hkd] at hk
     exact loud T (fun v w' he hv=>go v (T v) w' he hv (hT i T hkd v) (.inl ⟨hwt,by rw [hkd]; rfl⟩)) (hk w hw hkn)
  ·rw [if_neg hwt]
   refine hK _ _ _ hw ?_ ?_ (hnext undef (fun _=>True) (.inr ⟨by simpa using hwt,rfl,rfl⟩))
   ·intro t
    unfold upd
    split
    ·trivial
    ·exact hF t
   ·intro t w1 w2 h12
    unfold upd
    split
    ·exact id
    ·exact hM t _ _ h12

theorem zhs {n g:Nat} {L:Array Bool->Act->Fm->Prop} {Q':Exit->Act->World->Prop} (hT:∀ i T,kd i=some (.inr T)->∀ v,zb9 (T v))
  (hL:∀ listed a F w,Ext w0 w->(∀ t,F t w)->L listed a F->wpAny P .any ops Q' g listed a w) :
  ∀ (f:Nat) (listed:Array Bool) (a:Act) (F:Fm) (w:World),Ext w0 w->(∀ t,F t w)->(∀ t,zb9 (F t))->zk8 P w0 ops kd n L f listed a F->wpAny P .any ops Q' (f+g) listed a w
 | 0,listed,a,F,w,hw,hF,_,h=>by rw [Nat.zero_add]; exact hL _ _ _ _ hw hF h
 | f+1,listed,a,F,w,hw,hF,hM,h=>by
  rw [show f+1+g=(f+g)+1 by omega]
  exact ⟨fun h0=>absurd h0 h.1,fun i hi=>zkB hT hw hF hM (fun a F w hw hF hM h=>zhs hT hL f _ a F w hw hF hM h) (h.2 i hi).2⟩

theorem zhx {K:List zdg} (hT:∀ k ∈ K,zsk k):∀ i T,(fun i=>K.getD i none) i=some (Sum.inr T)->∀ v,zb9 (T v):=by
 intro i T hi v
 have hmem:some (Sum.inr T) ∈ K:=by
  simp only [] at hi
  rw [List.getD_eq_getElem?_getD] at hi
  cases hx:K[i]? with
  | none=>rw [hx] at hi; cases hi
  | some y=>rw [hx] at hi; simp at hi; subst hi; exact List.mem_of_getElem? hx
 exact hT _ hmem v

theorem zap {id:Nat} {Q:Exit->Act->World->Prop} {a:Act} {w:World} {l:List Oper} (n:Nat) (K:List zdg) (hm:P.follows .mixedOrders=true) (hB:Region.lexTailB .any l.toArray n=true)
  (hT:zhF K)
  (h:wpM P w l.toArray (fun a' F=>∀ w',Ext w w'->(∀ t,F t w')->wpList P l.toArray Q (l.drop n) a' w') (l.take n) K a (fun _ _=>True)):(Code.region id l.toArray true).wp P Q a w:=by
 replace hT:=zeH hT
 simp only [Region.lexTailB,Bool.and_eq_true,decide_eq_true_eq] at hB
 obtain ⟨⟨⟨⟨hsel,hn⟩,hs⟩,hc⟩,hlex⟩:=hB
 have hn':n < l.length:=by simpa using hn
 have htl:(l.take n).length=n:=by simp; omega
 have hdl:(l.drop n).length=l.toArray.size - n:=by simp
 have inv0:HeadInv .any l.toArray n (Array.replicate l.toArray.size false) :=
  ⟨by simp,fun j oj _ hl=>(by rw [getD_replicate_false] at hl; cases hl),fun t _ ht=>getD_in (by simpa using ht) (getD_replicate_false _ _)⟩
 have H:=zkY (P:=P) (w0:=w) (g:=l.toArray.size - n) K hsel hs hc hn (l.take n) K 0 _ a (fun _ _=>True) (fun j hj=>by
  have hj':j < n:=by rw [htl] at hj; exact hj
  simp [hj']) (by simp) (by simpa using htl) inv0 (by rw [htl]; exact hlex) h
 refine wp_region_any hm ?_
 have:=zhs (Q':=Q) (g:=l.toArray.size - n) (zhx hT) (fun listed a' F w' hw hF hL=>by
  have:=wpAny_of_seq (md:=.any) (Q':=Q) (l.drop n) n listed a' w' (fun j=>by simp [List.getElem?_drop]) (by rw [hdl]; exact hL.1) (hL.2 w' hw hF)
  rwa [hdl] at this) _ _ _ _ ({ w with drawn:=w.drawn+1 }) ((Ext.refl w).drew) (fun _=>trivial) (fun _ _ _ _ h=>h) H
 rw [htl,show n+(l.toArray.size - n)=l.toArray.size by omega] at this
 exact this

end
open Go Go.RowKit

theorem Ext.drewN {a w:World} (h:Ext a w) (n:Nat):Ext a (w.drewN n):=⟨h.os,h.tape,h.output,h.size,h.block⟩
theorem Ext.of_drewN (w:World) (n:Nat):Ext w (w.drewN n):=(Ext.refl w).drewN n

abbrev I (n:Int):Value:=.int .i64 n

def Row (w:World) (size:Nat) (v:Value) (n:Nat) (cs:List Value):Prop :=
 cs.length=n * size/\∃ ao cap,v=.slice ao n cap/\n<=cap/\cap<=maxLen/\(ao=none->cap=0)/\∀ j u,cs[j]?=some u->∃ b off,ao=some ⟨b,off,none⟩/\w.cell? ⟨b,off+j,none⟩=some u

theorem Row.ext {w w':World} {size:Nat} {v:Value} {n:Nat} {cs:List Value} (h:Row w size v n cs) (he:Ext w w'):Row w' size v n cs:=by
 obtain ⟨h1,ao,cap,h2,h3,h4,h0,h5⟩:=h
 exact ⟨h1,ao,cap,h2,h3,h4,h0,fun j u hj=>by obtain ⟨b,off,e,hc⟩:=h5 j u hj; exact ⟨b,off,e,he.cell hc⟩⟩

theorem Row.of_owns {w:World} {base e size:Nat} {v:Value} {n:Nat} {cs:List Value} (h:w.ownsRow base e size v n cs):Row w size v n cs:=by
 obtain ⟨h1,h2⟩:=h
 refine ⟨h1,?_⟩
 rcases h2 with ⟨rfl,rfl⟩ | ⟨g,cap,cur,rfl,hb,hg,hn,hm,hs,ht⟩
 ·refine ⟨none,0,rfl,Nat.le_refl _,Nat.zero_le _,fun _=>rfl,fun j u hj=>?_⟩
  have:cs=[]:=List.eq_nil_of_length_eq_zero (by simpa using h1)
  subst this
  simp at hj
 ·refine ⟨_,cap,rfl,hn,hm,fun h=>(by cases h),fun j u hj=>⟨g,0,rfl,?_⟩⟩
  have hj':j < n * size:=by rw [<- h1]; exact (List.getElem?_eq_some_iff.1 hj).1
  rw [<- ht,List.getElem?_take,if_pos hj'] at hj
  simp only [World.cell?,Nat.zero_add,hg]
  simpa using hj

def zc2 (w:World) (v:Value) (xs:List Int):Prop:=Row w 1 v xs.length (xs.map I)
theorem zc2.ext {w w':World} {v:Value} {xs:List Int} (h:zc2 w v xs) (he:Ext w w'):zc2 w' v xs:=Row.ext h he

theorem zc2.form {w:World} {v:Value} {xs:List Int} (h:zc2 w v xs):∃ ao cap,v=.slice ao xs.length cap/\xs.length<=cap/\cap<=maxLen /\
  ∀ k,k < xs.length->∃ b off,ao=some ⟨b,off,none⟩/\w.cell? ⟨b,off+k,none⟩=some (I (xs.getD k 0)):=by
 obtain ⟨_,ao,cap,h2,h3,h4,_,h5⟩:=h
 refine ⟨ao,cap,h2,h3,h4,fun k hk=>?_⟩
 exact h5 k _ (by simp [hk])

def zaC (l:List (Int×Int)):List Value:=l.flatMap fun p=>[I p.1,I p.2]
theorem zcd (l:List (Int×Int)):(zaC l).length=l.length * 2:=by
 unfold zaC
 induction l with
 | nil=>rfl
 | cons p l ih=>simp [List.flatMap_cons,ih]; omega
theorem zcy (l m:List (Int×Int)):zaC (l++m)=zaC l++zaC m:=by simp [zaC]
theorem zeW (l:List (Int×Int)) (k:Nat) (h:k < l.length):(zaC l)[k * 2]?=some (I (l.getD k (0,0)).1)/\(zaC l)[k * 2+1]?=some (I (l.getD k (0,0)).2):=by
 induction l generalizing k with
 | nil=>simp at h
 | cons p l ih =>
  cases k with
  | zero=>exact ⟨rfl,rfl⟩
  | succ k =>
   have:=ih k (by simpa using h)
   rw [show (k+1) * 2=k * 2+2 by omega,show k * 2+2+1=k * 2+1+2 by omega]
   exact this

theorem zfr (l:List (Int×Int)) (k:Nat) (p:Int×Int):zaC (l.set k p)=((zaC l).set (k * 2) (I p.1)).set (k * 2+1) (I p.2):=by
 induction l generalizing k with
 | nil=>simp [zaC]
 | cons q l ih =>
  cases k with
  | zero=>rfl
  | succ k =>
   rw [show (k+1) * 2=k * 2+2 by omega,show k * 2+2+1=k * 2+1+2 by omega]
   show I q.1::I q.2::zaC (l.set k p)=_
   rw [ih]
   rfl

def zar (w:World) (v:Value) (l:List (Int×Int)):Prop:=Row w 2 v l.length (zaC l)
theorem zar.ext {w w':World} {v:Value} {l:List (Int×Int)} (h:zar w v l) (he:Ext w w'):zar w' v l:=Row.ext h he
theorem zar.form {w:World} {v:Value} {l:List (Int×Int)} (h:zar w v l):∃ ao cap,v=.slice ao l.length cap/\l.length<=cap/\cap<=maxLen /\
  ∀ k,k < l.length->∃ b off,ao=some ⟨b,off,none⟩/\w.cell? ⟨b,off+k * 2,none⟩=some (I (l.getD k (0,0)).1)/\w.cell? ⟨b,off+k * 2+1,none⟩=some (I (l.getD k (0,0)).2):=by
 obtain ⟨_,ao,cap,h2,h3,h4,_,h5⟩:=h
 refine ⟨ao,cap,h2,h3,h4,fun k hk=>?_⟩
 obtain ⟨c1,c2⟩:=zeW l k hk
 obtain ⟨b,off,e,hc⟩:=h5 _ _ c1
 obtain ⟨b',off',e',hc'⟩:=h5 _ _ c2
 rw [e] at e'
 simp only [Option.some.injEq,Addr.mk.injEq,and_true] at e'
 obtain ⟨rfl,rfl⟩:=e'
 exact ⟨b,off,e,hc,hc'⟩

theorem zmu (xs:List Int):∀ u ∈ xs.map I,u.oneCell'=true:=ints_oneCell _ _
theorem zdf (l:List (Int×Int)):∀ u ∈ zaC l,u.oneCell'=true:=by
 intro u hu
 unfold zaC at hu
 rw [List.mem_flatMap] at hu
 obtain ⟨p,_,hp⟩:=hu
 simp at hp
 rcases hp with rfl | rfl <;> rfl

theorem add_plain (b off j:Nat):(⟨b,off,none⟩:Addr).add j=⟨b,off+j,none⟩:=by
 unfold Addr.add
 split
 ·simp [*]
 ·rfl

theorem zls {P:Program} (w:World) (t ty e:TypeId) (hu:P.underlying t=some (.slice e)) (hsz:(P.info? e).map (·.size)=some 1) (base g n:Nat) (v:Value) (cs old:List Value)
  (hown:w.ownsRow base e 1 (.slice (some ⟨g,0,none⟩) n n) n old) (hv:Row w 1 v n cs) (h1:∀ u ∈ cs,u.oneCell'=true) :
  ∃ w',(Builtin.copy_ #[t,t] ty #[.slice (some ⟨g,0,none⟩) n n,v]).run P w=.ok (goInt n) w'/\w'.ownsRow base e 1 (.slice (some ⟨g,0,none⟩) n n) n cs/\w.grownBy w' (some g):=by
 obtain ⟨hl,ao,cap,rfl,hc,hm,_,hcell⟩:=hv
 obtain ⟨ho,ho'⟩:=hown
 rcases ho' with ⟨h,_⟩ | ⟨g',cap',cur,h,hb,hg,hn,hm',hs,ht⟩
 ·simp at h
 simp only [Value.slice.injEq,Option.some.injEq,Addr.mk.injEq,and_true,true_and] at h
 obtain ⟨rfl,rfl⟩:=h
 rw [Nat.mul_one] at hl hs
 by_cases h0:n=0
 ·subst h0
  have:cs=[]:=List.eq_nil_of_length_eq_zero hl
  subst this
  refine ⟨w,run_copy_none w t t ty e _ _ _ _ _ _ hu hsz (by simp),⟨rfl,.inr ⟨g,0,cur,rfl,hb,hg,Nat.le_refl _,hm',by simpa using hs,by simp⟩⟩,World.grownBy.refl _ _⟩
 ·have hne:cs≠[]:=by intro e; subst e; simp at hl; omega
  obtain ⟨c0,hc0⟩:∃ c,cs[0]?=some c:=by cases cs with | nil=>exact absurd rfl hne | cons c _=>exact ⟨c,rfl⟩
  obtain ⟨b,off,rfl,_⟩:=hcell 0 c0 hc0
  have hrun:=run_copy_row (P:=P) w t t ty e g 0 n n ⟨b,off,none⟩ n cap cur e cs hu hsz hg (by rw [hl]; exact (Nat.min_self n).symm) (fun j u hj=>by
   obtain ⟨b',off',e',hc'⟩:=hcell j u hj
   simp only [Option.some.injEq,Addr.mk.injEq,and_true] at e'
   obtain ⟨rfl,rfl⟩:=e'
   rw [add_plain]; exact hc') (by omega) h1
  rw [hl] at hrun
  refine ⟨_,hrun,⟨by omega,.inr ⟨g,n,_,rfl,hb,setRow_heap w g cur _ e _ hg,Nat.le_refl _,hm',?_,?_⟩⟩,⟨rfl,rfl,rfl,by simp [World.setRow],fun k _ hk=>setRow_other w g k _ (fun e=>hk (by simp [e]))⟩⟩
  ·simp; omega
  ·simp [<- hl]

theorem Ext.grown {a w w':World} {row:Option Nat} (h:Ext a w) (hg:w.grownBy w' row) (hr:∀ k,row=some k->a.heap.size<=k):Ext a w':=Below.grown h hg h.size hr

theorem zdC {w:World} {base e n:Nat} {v:Value} {xs:List Int} (h:w.ownsRow base e 1 v n (xs.map I)):zc2 w v xs:=by
 have hl:xs.length=n:=by simpa using h.1
 subst hl
 exact Row.of_owns h
theorem zas {w:World} {base e n:Nat} {v:Value} {l:List (Int×Int)} (h:w.ownsRow base e 2 v n (zaC l)):zar w v l:=by
 have hl:l.length=n:=by have:=h.1; rw [zcd] at this; omega
 subst hl
 exact Row.of_owns h
theorem Ext.alloc {a w:World} (h:Ext a w) (o:Obj):Ext a (w.alloc o):=Below.alloc h h.size o
theorem Ext.setCell {a w:World} (h:Ext a w) {p:Addr} (hp:a.heap.size<=p.block) (u:Value):Ext a (w.setCell p u):=Below.setCell h hp u

theorem zdA {P:Program} (w:World) (base:Nat) (t ty e:TypeId) (i:TypeInfo) (z:Value) (size bytes:Nat) (ht:P.underlying t=some (.slice e)) (hi:P.info? e=some i) (hz:i.zero=some z)
  (hsize:i.size=size) (hby:i.bytes=bytes) (hzs:z.cells.size=size) (hsz:0 < size)
  (v:Value) (n:Nat) (xs:List Value) (hown:w.ownsRow base e size v n xs) (u:Value) (m:Nat) (news:List Value) (hu:Row w size u m news) (h1:∀ u ∈ news,u.oneCell'=true)
  (hbytes:(n+m) * bytes<=140737488355328) (hpos:0 < bytes) (hbase:base<=w.heap.size) :
  ∃ v' w',(Builtin.append_ #[t,t] ty #[v,u]).run P w=.ok v' w'/\w'.ownsRow base e size v' (n+m) (xs++news)/\w.grownBy w' v.ownBlock:=by
 obtain ⟨hl,ao,cap,rfl,hc,hm,h0,hcell⟩:=hu
 have h63:n+m<=maxLen:=by
  have:n+m<=(n+m) * bytes:=Nat.le_mul_of_pos_right _ hpos
  unfold maxLen
  omega
 cases ao with
 | none =>
  have hcap:=h0 rfl
  subst hcap
  have hm0:m=0:=by omega
  subst hm0
  have:news=[]:=List.eq_nil_of_length_eq_zero (by simpa using hl)
  subst this
  exact ⟨v,w,run_append_owned_none w base t ty e i size ht hi v n xs hown,by simpa using hown,World.grownBy.refl _ _⟩
 | some ad =>
  obtain ⟨v',w',h1',h2',h3',_⟩:=run_append_own w base t ty e i z size bytes ht hi hz hsize hby hzs hsz v n xs hown ad m cap news hl (fun j u hj=>by
   obtain ⟨b,off,e',hc'⟩:=hcell j u hj
   simp only [Option.some.injEq] at e'
   subst e'
   rw [add_plain]; exact hc') h1 h63 hbytes hbase
  exact ⟨v',w',h1',h2',h3'⟩

theorem zaJ {P:Program} (w:World) {ops:Array Oper} {rest:List Oper} {o:Oper} {a:Act} {Q:Exit->Act->World->Prop} (hgd:o.guard=none) (s x:Operand) (t:TypeId)
  (ho:o.op=.call { callee:=.builtin .append,args:=#[s,x],argTypes:=#[t,t] })
  (base:Nat) (e:TypeId) (i:TypeInfo) (z:Value) (size bytes:Nat) (ht:P.underlying t=some (.slice e)) (hi:P.info? e=some i) (hz:i.zero=some z)
  (hsize:i.size=size) (hby:i.bytes=bytes) (hzs:z.cells.size=size) (hsz:0 < size)
  (v:Value) (n:Nat) (xs:List Value) (hs:a.eval s=v) (hown:w.ownsRow base e size v n xs) (u:Value) (hx:a.eval x=u) (m:Nat) (news:List Value) (hu:Row w size u m news) (h1:∀ u ∈ news,u.oneCell'=true)
  (hbytes:(n+m) * bytes<=140737488355328) (hpos:0 < bytes) (hbase:base<=w.heap.size)
  (h:∀ v' w',w'.ownsRow base e size v' (n+m) (xs++news)->w.grownBy w' v.ownBlock->wpList P ops Q rest (a.put o.dst v') w'):wpList P ops Q (o::rest) a w:=by
 refine wpList_plain hgd fun K hK=>?_
 obtain ⟨v',w',hrun,h2,h3⟩:=zdA (P:=P) w base t o.type e i z size bytes ht hi hz hsize hby hzs hsz v n xs hown u m news hu h1 hbytes hpos hbase
 unfold Oper.wp
 simp [execOp,ho,resolve,invoke,builtin,hs,hx,hrun,Result.andThen]
 exact hK _ _ (h v' w' h2 h3)

theorem zbr (w:World):zar w (.slice none 0 0) []:=zas (World.ownsRow_nil w 0 0 2)
theorem zhy (w:World):zc2 w (.slice none 0 0) []:=zdC (World.ownsRow_nil w 0 0 1)
theorem Row.take {w:World} {size n cap:Nat} {ao:Option Addr} {cs:List Value} (h:Row w size (.slice ao n cap) n cs) (k:Nat) (hk:k<=n):Row w size (.slice ao k cap) k (cs.take (k * size)):=by
 obtain ⟨h1,ao',cap',h2,h3,h4,h0,h5⟩:=h
 simp only [Value.slice.injEq,true_and] at h2
 obtain ⟨rfl,rfl⟩:=h2
 refine ⟨?_,ao,cap,rfl,by omega,h4,h0,fun j u hj=>?_⟩
 ·rw [List.length_take,h1]
  exact Nat.min_eq_left (Nat.mul_le_mul_right _ hk)
 ·rw [List.getElem?_take] at hj
  split at hj
  ·exact h5 j u hj
  ·cases hj
theorem znz (l:List (Int×Int)) (k:Nat):(zaC l).take (k * 2)=zaC (l.take k):=by
 induction l generalizing k with
 | nil=>simp [zaC]
 | cons p l ih =>
  cases k with
  | zero=>rfl
  | succ k =>
   rw [show (k+1) * 2=k * 2+2 by omega]
   show I p.1::I p.2::(zaC l).take (k * 2)=_
   rw [ih]
   rfl
theorem zar.take {w:World} {cap:Nat} {ao:Option Addr} {l:List (Int×Int)} (h:zar w (.slice ao l.length cap) l) (k:Nat) (hk:k<=l.length):zar w (.slice ao k cap) (l.take k):=by
 have:=Row.take h k hk
 rw [znz] at this
 unfold zar
 rw [List.length_take,Nat.min_eq_left hk]
 exact this

theorem zgY {w:World} (e:TypeId) (l:List (Int×Int)) (cs:Array Value) (n:Nat) (hc:cs.toList=zaC l) (hn:l.length=n) (hm:n<=maxLen):zar (w.alloc (.cells cs e)) (.slice (some ⟨w.heap.size,0,none⟩) n n) l:=by
 subst hn
 have:=World.ownsRow_lit (base:=0) (e:=e) (size:=2) w cs l.length (Nat.zero_le _) hm (by rw [<- Array.length_toList,hc,zcd])
 rw [hc] at this
 exact zas this
theorem Ext.grownBy {w w':World} (h:Ext w w') (row:Option Nat):w.grownBy w' row:=⟨h.os,h.tape,h.output,h.size,fun k hk _=>h.block k hk⟩
theorem zai {w w':World} {base e size n:Nat} {v:Value} {xs:List Value} (h:w.ownsRow base e size v n xs) (he:Ext w w'):w'.ownsRow base e size v n xs :=
 h.kept (he.grownBy none) (by cases hv:v.ownBlock with | none=>exact .inl rfl | some k=>exact .inr (by simp))
theorem zgR {w w':World} {row:Option Nat} (hg:w.grownBy w' row) {b o:Nat} {v:Value} (h:w.cell? ⟨b,o,none⟩=some v) (hne:row≠some b):w'.cell? ⟨b,o,none⟩=some v :=
 hg.cell h (fun e=>hne e.symm)

theorem zaz {a b c:World} {row:Option Nat} (h:a.grownBy b row) (k:b.grownBy c row):a.grownBy c row :=
 ⟨k.os.trans h.os,k.tape.trans h.tape,k.output.trans h.output,Nat.le_trans h.size k.size,fun i hi hne=>(k.block i (Nat.lt_of_lt_of_le hi h.size) hne).trans (h.block i hi hne)⟩
theorem zjg {a b:World} {row:Option Nat} (h:a.grownBy b row):a.grownBy b.drew row:=⟨h.os,h.tape,h.output,h.size,h.block⟩

theorem Calls.same {P:Program} {f:FuncId} {args:Array Value} {w:World} {v:Value} {Q:Ending->World->Prop} (h:Calls P f args w fun e w'=>e=.returned v/\w'=w) (k:Q (.returned v) w):Calls P f args w Q :=
 h.mono fun e w' ⟨he,hw⟩=>by rw [he,hw]; exact k
theorem Calls.drawn {P:Program} {f:FuncId} {args:Array Value} {w:World} {v:Value} {Q:Ending->World->Prop} (h:Calls P f args w fun e w'=>e=.returned v/\∃ n,w'=w.drewN n) (k:∀ n,Q (.returned v) (w.drewN n)):Calls P f args w Q :=
 h.mono fun e w' ⟨he,n,hw⟩=>by rw [he,hw]; exact k n

def zaw (P:Program) (f:FuncId) (args:Array Value) (w:World) (T:Value->World->Prop):Prop:=Calls P f args w fun e w'=>∃ r,e=.returned r/\Ext w w'/\T r w'
theorem zaw.to {P:Program} {f:FuncId} {args:Array Value} {w:World} {T:Value->World->Prop} {Q:Ending->World->Prop} (h:zaw P f args w T) (k:∀ r w',Ext w w'->T r w'->Q (.returned r) w'):Calls P f args w Q :=
 Calls.mono h fun e w' ⟨r,he,hx,ht⟩=>by rw [he]; exact k r w' hx ht
theorem zaw.mono {P:Program} {f:FuncId} {args:Array Value} {w:World} {T T':Value->World->Prop} (h:zaw P f args w T) (k:∀ r w',Ext w w'->T r w'->T' r w'):zaw P f args w T' :=
 Calls.mono h fun _ w' ⟨r,he,hx,ht⟩=>⟨r,he,hx,k r w' hx ht⟩
theorem zdG {P:Program} {f:FuncId} {args:Array Value} {w:World} {v:Value} (h:Calls P f args w fun e w'=>e=.returned v/\w'=w):zaw P f args w (fun r _=>r=v) :=
 Calls.mono h fun _ w' ⟨he,hw⟩=>⟨v,he,by rw [hw]; exact Ext.refl _,rfl⟩
theorem zgT (l:List (Int×Int)):∀ v,zb9 (fun w=>zar w v l):=fun _ _ _ he h=>zar.ext h he
theorem zev (base e size n:Nat) (cs:List Value):∀ v,zb9 (fun w=>w.ownsRow base e size v n cs):=fun _ _ _ he h=>zai h he
abbrev zM:Array Value:=#[.slice none 0 0,.slice none 0 0,.slice none 0 0,.slice none 0 0,I 0,.slice none 0 0,.bool false,I 0,I 0,I 0,I 0,I 0,I 0,.slice none 0 0,I 0,I 0,.bool false,I 0,I 0,.slice none 0 0]
abbrev zS:Array Value:=#[I 0,.slice none 0 0,.bool false,I 0,I 0,I 0,I 0,I 0,I 0,.slice none 0 0,I 0,I 0]
abbrev zC:Array Value:=#[.slice none 0 0,I 0,.bool false,I 0,.slice none 0 0,.slice none 0 0]
abbrev zT4:Array Value:=#[.slice none 0 0,.slice none 0 0,.slice none 0 0,.slice none 0 0]
theorem zlt {w:World} {b:Nat} {x:Obj} (h:Hid (w.heap[b]?=some x)):b < w.heap.size:=(Array.getElem?_eq_some_iff.1 h.o).1
end Go.Mk

/- Texts of the proof, merged: MonoW Mem7 Mem8 Mem9 Big. -/
import Derived.Test.YtdmipnnfoolelafGreatKTA
import Derived.Test.YtdmipnnfoolelafGreatKTC
import Derived.Deep.MidRow
import Derived.Great.Ranges

namespace Go.Mk
open Go Go.RowKit

def zpB (ops:Array Oper):Nat->Nat->Nat->Bool
 | 0,_,_=>false
 | f+1,j,i=>match ops[j]? with
  | some oj=>oj.after.any fun e=>Region.binds .any e && (e.on == i || zpB ops f e.on i)
  | none=>false

section
variable (P:Program) (w0:World) (ops:Array Oper) (kd:Nat->zdY) (x:Nat) (Tx:Value->World->Prop)

def okW (o:Oper) (a:Act) (F:Fm):Prop:=∀ w,Ext w0 w->zgH F ops o w->∃ v w',(execOp a.eval o).run P w=.ok (.value v) w'/\Ext w0 w'/\Tx v w'
def zga (d:Option Tmp) (φ:World->Prop):Fm:=fun t w=>if d=some t then φ w else True
def opW (i:Nat) (K:Act->Fm->Prop) (a:Act) (F:Fm):Prop :=
 if i=x then ∃ o,ops[x]?=some o/\o.guard=none/\okW P w0 ops Tx o a F/\∀ v,K (a.put o.dst v) (zga o.dst (Tx v)) else opM P w0 ops kd i K a F

def zjN (n:Nat) (L:Array Bool->Act->Fm->Prop):Nat->Array Bool->Act->Fm->Prop
 | 0,listed,a,F=>L listed a F
 | f+1,listed,a,F =>
  Region.ready .any ops listed≠[]/\∀ i ∈ Region.ready .any ops listed,i < n/\opW P w0 ops kd x Tx i (zjN n L f (listed.setIfInBounds i true)) a F
end

section
variable {P:Program} {w0:World} {ops:Array Oper} {kd:Nat->zdY} {x:Nat} {Tx:Value->World->Prop}

theorem zju {n:Nat} {listed:Array Bool} (inv:HeadInv .any ops n listed):∀ (f j i:Nat),(∀ oj,ops[j]?=some oj->∀ e ∈ oj.after,Region.binds .any e=true->listed.getD e.on false=true)->zpB ops f j i=true->listed.getD i false=true
 | 0,_,_,_,h=>by cases h
 | f+1,j,i,hall,h=>by
  unfold zpB at h
  split at h
  ·rename_i oj hoj
   obtain ⟨e,he,hb⟩:=Array.any_eq_true'.1 h
   simp only [Bool.and_eq_true,Bool.or_eq_true,beq_iff_eq] at hb
   have h1:=hall oj hoj e he hb.1
   rcases hb.2 with h2 | h2
   ·rw [<- h2]; exact h1
   ·exact zju inv f e.on i (fun ok hok e2 he2 hb2=>inv.closed e.on ok hok h1 e2 he2 hb2) h2
  ·cases h

theorem zod {d d2:Option Tmp} {φ:World->Prop} (h:∀ t,d=some t->d2≠some t):upd (zga d φ) d2 (fun _=>True)=zga d φ:=by
 funext t w
 unfold upd zga
 by_cases h2:d2=some t
 ·rw [if_pos h2,if_neg (fun e=>h t e h2)]
 ·rw [if_neg h2]

theorem zrP {o:Oper} {a:Act} {F:Fm} {d:Option Tmp} {v:Value} {φ:World->Prop} (hs:∀ cs b,o.op≠.select cs b) (h:∀ t,d=some t->t ∉ o.looksAt ops) (hk:okW P w0 ops Tx o (a.put d v) (upd F d φ)):okW P w0 ops Tx o a F:=by
 have he:=execOp_put (ops:=ops) o hs a d v h
 have hkn:=zk8 (ops:=ops) (F:=F) (φ:=φ) h
 intro w hw hkw
 have:=hk w hw (by rw [hkn]; exact hkw)
 rw [he] at this
 exact this

theorem zqg {o:Oper} {a:Act} {F F':Fm} (h:OkO P w0 ops none o a F):OkO P w0 ops none o a F':=h
theorem zpG {o:Oper} {a:Act} {v:Value} {φ:World->Prop} (h:zgi P w0 ops none o a v φ):φ=fun _=>True:=by
 rcases h with ⟨_,_,h⟩ | ⟨_,_,h⟩ <;> exact h

theorem zmL {n i:Nat} {oi:Oper} {L:Array Bool->Act->Fm->Prop} (hi:ops[i]?=some oi) (hsel:∀ (j:Nat) (o:Oper) cs b,ops[j]?=some o->o.op≠.select cs b)
  (hs:Region.sinkB .any ops n=true) (hc:Region.chainB .any ops n=true) (hn:n < ops.size) (hin:i < n) (hix:i≠x) (hpure:kd i=none∨zpB ops ops.size x i=true)
  (hdone:∀ listed a F,L listed a F->∀ j ∈ Region.ready .any ops listed,n<=j) :
  ∀ (f:Nat) (listed:Array Bool) (a:Act) (F:Fm),HeadInv .any ops n listed ->
   (∀ j oj,ops[j]?=some oj->j≠i->listed.getD j true=false->(∀ e ∈ oj.after,Region.binds .any e=true->e.on≠i)->oi.apart ops oj=true) ->
   i ∈ Region.ready .any ops listed->OkO P w0 ops (kd i) oi a F ->
   (∀ v φ,zgi P w0 ops (kd i) oi a v φ->zjN P w0 ops kd x Tx n L f (listed.setIfInBounds i true) (a.put oi.dst v) (upd F oi.dst φ)) ->
   zjN P w0 ops kd x Tx n L (f+1) listed a F:=by
 intro f
 induction f with
 | zero =>
  intro listed a F inv _ hr hok H
  have hun:=(mem_ready.1 hr).1
  refine ⟨fun h=>(by rw [h] at hr; cases hr),fun j hj=>?_⟩
  have hjn:j < n:=by
   rcases Nat.lt_or_ge j n with h | h
   ·exact h
   ·exact absurd hj (tail_waits hs hc hn inv _ i rfl hin hun j h)
  refine ⟨hjn,?_⟩
  by_cases hji:j=i
  ·subst hji
   unfold opW
   rw [if_neg hix]
   unfold opM
   rw [hi]
   exact ⟨hok,H⟩
  ·obtain ⟨v,φ,hv⟩:=zgg hok
   have:=hdone _ _ _ (H v φ hv) j (ready_mono hj hji)
   omega
 | succ f ih =>
  intro listed a F inv hfree hr hok H
  have hun:=(mem_ready.1 hr).1
  refine ⟨fun h=>(by rw [h] at hr; cases hr),fun j hj=>?_⟩
  have hjn:j < n:=by
   rcases Nat.lt_or_ge j n with h | h
   ·exact h
   ·exact absurd hj (tail_waits hs hc hn inv _ i rfl hin hun j h)
  refine ⟨hjn,?_⟩
  by_cases hji:j=i
  ·subst hji
   unfold opW
   rw [if_neg hix]
   unfold opM
   rw [hi]
   exact ⟨hok,H⟩
  obtain ⟨hjun,oj,hoj,hall⟩:=mem_ready.1 hj
  have hnot:∀ e ∈ oj.after,Region.binds .any e=true->e.on≠i:=fun e he hb heq=>by
   have h1:=hall e he hb
   rw [heq,getD_both hun] at h1
   cases h1
  obtain ⟨a1,a2,a3⟩:=Oper.apart_spec (hfree j oj hoj hji hjun hnot)
  have hsi:∀ cs b,oi.op≠.select cs b:=fun cs b=>hsel i oi cs b hi
  have hsj:∀ cs b,oj.op≠.select cs b:=fun cs b=>hsel j oj cs b hoj
  have hfree':∀ k ok,ops[k]?=some ok->k≠i->(listed.setIfInBounds j true).getD k true=false ->
    (∀ e ∈ ok.after,Region.binds .any e=true->e.on≠i)->oi.apart ops ok=true:=fun k ok hk hki hun hno=>by
   refine hfree k ok hk hki ?_ hno
   by_cases hjk:j=k
   ·subst hjk; exact hjun
   ·rw [getD_set_ne true hjk] at hun; exact hun
  by_cases hjx:j=x
  ·subst hjx
   have hkn:kd i=none:=by
    rcases hpure with h | h
    ·exact h
    ·have:=zju inv _ _ _ (fun ok hok e he hb=>by
      have:ok=oj:=Option.some.inj (hok.symm.trans hoj)
      subst this
      exact hall e he hb) h
     rw [getD_both hun] at this
     cases this
   rw [hkn] at hok H ih
   have at_x:∀ v φ,zgi P w0 ops none oi a v φ->oj.guard=none/\okW P w0 ops Tx oj (a.put oi.dst v) (upd F oi.dst φ)/\∀ u,zjN P w0 ops kd j Tx n L f ((listed.setIfInBounds i true).setIfInBounds j true) ((a.put oi.dst v).put oj.dst u) (zga oj.dst (Tx u)):=fun v φ hv=>by
    have:=((H v φ hv).2 j (ready_mono hj hji)).2
    unfold opW at this
    rw [if_pos rfl] at this
    obtain ⟨o,ho,h1,h2,h3⟩:=this
    have:o=oj:=Option.some.inj (ho.symm.trans hoj)
    subst this
    exact ⟨h1,h2,h3⟩
   obtain ⟨v0,φ0,hv0⟩:=zgg hok
   unfold opW
   rw [if_pos rfl]
   refine ⟨oj,hoj,(at_x v0 φ0 hv0).1,zrP hsj a1 (at_x v0 φ0 hv0).2.1,fun u=>?_⟩
   refine ih (listed.setIfInBounds j true) _ _ (inv.set hj hjn) hfree' (ready_mono hr (Ne.symm hji)) (zqg ((zge (F:=F) (φ:=fun _=>True) hsi a3).2 hok)) fun v φ hv=>?_
   have hv':=(zeX hsi a3).1 hv
   have hφ:=zpG hv
   subst hφ
   rw [zod (fun t h1 h2=>a2 t h2 h1),Array.setIfInBounds_comm _ _ hji,<- Act.put_comm a v u a2]
   exact (at_x v _ hv').2.2 u
  ·have at_j:∀ v φ,zgi P w0 ops (kd i) oi a v φ->OkO P w0 ops (kd j) oj (a.put oi.dst v) (upd F oi.dst φ) /\
     ∀ u ψ,zgi P w0 ops (kd j) oj (a.put oi.dst v) u ψ ->
      zjN P w0 ops kd x Tx n L f ((listed.setIfInBounds i true).setIfInBounds j true) ((a.put oi.dst v).put oj.dst u) (upd (upd F oi.dst φ) oj.dst ψ):=fun v φ hv=>by
    have:=((H v φ hv).2 j (ready_mono hj hji)).2
    unfold opW at this
    rw [if_neg hjx] at this
    unfold opM at this
    rw [hoj] at this
    exact this
   unfold opW
   rw [if_neg hjx]
   unfold opM
   rw [hoj]
   refine ⟨?_,fun u ψ hu=>?_⟩
   ·obtain ⟨v,φ,hv⟩:=zgg hok
    exact (zge hsj a1).1 (at_j v φ hv).1
   ·refine ih (listed.setIfInBounds j true) _ _ (inv.set hj hjn) hfree' (ready_mono hr (Ne.symm hji)) ((zge hsi a3).2 hok) fun v φ hv=>?_
    have hv':=(zeX hsi a3).1 hv
    have:=(at_j v φ hv').2 u ψ ((zeX hsj a1).2 hu)
    rw [Array.setIfInBounds_comm _ _ hji,<- Act.put_comm a v u a2,<- zj0 F φ ψ a2]
    exact this

theorem zk3 {g:Nat} {Lq:Act->Fm->Prop} (K:List zdY) (hsel:Region.noSelect ops=true) (hs:Region.sinkB .any ops (x+1)=true) (hc:Region.chainB .any ops (x+1)=true) (hn:x+1 < ops.size)
  (hP:∀ i,i < x->K.getD i none=none∨zpB ops ops.size x i=true) :
  ∀ (l:List Oper) (ks:List zdY) (k:Nat) (listed:Array Bool) (a:Act) (F:Fm),(∀ j,j < l.length->l[j]?=ops[k+j]?)->(ks=K.drop k)->k+l.length=x->HeadInv .any ops (x+1) listed ->
  Region.lexHead .any ops g (l.length+1) k listed=true ->
  wpM P w0 ops (fun a' F'=>∃ o,ops[x]?=some o/\o.guard=none/\okW P w0 ops Tx o a' F'/\∀ v,Lq (a'.put o.dst v) (zga o.dst (Tx v))) l ks a F ->
  zjN P w0 ops (fun i=>K.getD i none) x Tx (x+1) (fun listed' a' F'=>Region.seqB .any ops g (x+1) listed'=true/\Lq a' F') (l.length+1) listed a F
 | [],_,k,listed,a,F,_,_,hk,inv,hB,h=>by
  have hkx:k=x:=by simpa using hk
  subst hkx
  simp only [List.length_nil,Region.lexHead,Bool.and_eq_true] at hB
  obtain ⟨⟨hr,hf⟩,hB'⟩:=hB
  have hr':k ∈ Region.ready .any ops listed:=by simpa using hr
  have hun:=(mem_ready.1 hr').1
  refine ⟨fun h=>(by rw [h] at hr'; cases hr'),fun j hj=>?_⟩
  have hjn:j < k+1:=by
   rcases Nat.lt_or_ge j (k+1) with h | h
   ·exact h
   ·exact absurd hj (tail_waits hs hc hn inv _ k rfl (by omega) hun j h)
  refine ⟨hjn,?_⟩
  have hjk:j=k:=by
   by_cases hjk:j=k
   ·exact hjk
   ·have:=seqB_ready hB' j (ready_mono hj hjk)
    omega
  subst hjk
  unfold opW
  rw [if_pos rfl]
  obtain ⟨o,ho,h1,h2,h3⟩:=h
  exact ⟨o,ho,h1,h2,fun v=>⟨hB',h3 v⟩⟩
 | o::l,ks,k,listed,a,F,hl,hks,hk,inv,hB,h=>by
  have h0:ops[k]?=some o:=by simpa using (hl 0 (by simp)).symm
  simp only [List.length_cons,Region.lexHead,Bool.and_eq_true] at hB
  obtain ⟨⟨hr,hf⟩,hB'⟩:=hB
  have hkx:k < x:=by simp only [List.length_cons] at hk; omega
  have hr':k ∈ Region.ready .any ops listed:=by simpa using hr
  have hd:ks.headD none=K.getD k none:=by
   rw [hks,List.headD_eq_head?_getD,List.head?_drop,List.getD_eq_getElem?_getD]
  obtain ⟨hok,hrest⟩:=h
  rw [hd] at hok hrest
  exact zmL h0 (Region.noSelect_spec hsel) hs hc hn (by omega) (by omega) (hP k hkx) (fun listed' a' F' hL=>seqB_ready hL.1) (l.length+1) listed a F inv (Region.free_spec h0 hf) hr' hok fun v φ hv =>
   zk3 K hsel hs hc hn hP l ks.tail (k+1) _ _ _ (fun j hj=>by have:=hl (j+1) (by simp; omega); simpa [Nat.add_assoc,Nat.add_comm 1 j] using this) (by rw [hks]; simp) (by simp only [List.length_cons] at hk; omega) (inv.set hr' (by omega)) (by simpa [Region.lexHead] using hB') (hrest v φ hv)

theorem zgm {n g:Nat} {L:Array Bool->Act->Fm->Prop} {Q':Exit->Act->World->Prop} (hT:∀ i T,kd i=some (.inr T)->∀ v,zcJ (T v)) (hTx:∀ v,zcJ (Tx v))
  (hL:∀ listed a F w,Ext w0 w->(∀ t,F t w)->L listed a F->wpAny P .any ops Q' g listed a w) :
  ∀ (f:Nat) (listed:Array Bool) (a:Act) (F:Fm) (w:World),Ext w0 w->(∀ t,F t w)->(∀ t,zcJ (F t))->zjN P w0 ops kd x Tx n L f listed a F->wpAny P .any ops Q' (f+g) listed a w
 | 0,listed,a,F,w,hw,hF,_,h=>by rw [Nat.zero_add]; exact hL _ _ _ _ hw hF h
 | f+1,listed,a,F,w,hw,hF,hM,h=>by
  rw [show f+1+g=(f+g)+1 by omega]
  refine ⟨fun h0=>absurd h0 h.1,fun i hi=>?_⟩
  have hi':=(h.2 i hi).2
  unfold opW at hi'
  by_cases hix:i=x
  ·rw [if_pos hix] at hi'
   rw [hix]
   obtain ⟨o,ho,hg,hok,hnext⟩:=hi'
   rw [hix] at hnext
   obtain ⟨v,w',hrun,he,ht⟩:=hok w hw (fun t _=>hF t)
   unfold wpOp
   rw [ho]
   simp only []
   have hwt:Region.wanted o (yielded ops a.tmps)=true:=by simp [Region.wanted,hg]
   rw [if_pos hwt]
   refine .inl ?_
   unfold Oper.wp
   rw [hrun]
   simp only [Oper.upon]
   refine zgm hT hTx hL f _ _ _ w' he ?_ ?_ (hnext v)
   ·intro t
    unfold zga
    split
    ·exact ht
    ·trivial
   ·intro t w1 w2 h12
    unfold zga
    split
    ·exact hTx v _ _ h12
    ·exact id
  ·rw [if_neg hix] at hi'
   exact zk6 hT hw hF hM (fun a F w hw hF hM h=>zgm hT hTx hL f _ a F w hw hF hM h) hi'

theorem zoW {Q Q':Act->Fm->Prop} (hq:∀ a F,Q a F->Q' a F):∀ (l:List Oper) (ks:List zdY) (a:Act) (F:Fm),wpM P w0 ops Q l ks a F->wpM P w0 ops Q' l ks a F
 | [],_,a,F,h=>hq a F h
 | _::l,ks,_,_,h=>⟨h.1,fun v φ hv=>zoW hq l ks.tail _ _ (h.2 v φ hv)⟩

theorem zcA {id:Nat} {Q:Exit->Act->World->Prop} {a:Act} {w:World} {l:List Oper} (x:Nat) (K:List zdY) (Tx:Value->World->Prop) (hm:P.follows .mixedOrders=true) (hB:Region.lexTailB .any l.toArray (x+1)=true)
  (hP:((List.range x).all fun i=>(K.getD i none).isNone || zpB l.toArray l.toArray.size x i)=true) (hT:zh3 K) (hTx:∀ v,zcJ (Tx v))
  (h:wpM P w l.toArray (fun a' F=>∃ o d,l.toArray[x]?=some o/\o.guard=none/\o.dst=some d/\okW P w l.toArray Tx o a' F/\∀ v w',Ext w w'->Tx v w'->wpList P l.toArray Q (l.drop (x+1)) (a'.put o.dst v) w') (l.take x) K a (fun _ _=>True)) :
  (Code.region id l.toArray true).wp P Q a w:=by
 replace hT:=zfn hT
 simp only [Region.lexTailB,Bool.and_eq_true,decide_eq_true_eq] at hB
 obtain ⟨⟨⟨⟨hsel,hn⟩,hs⟩,hc⟩,hlex⟩:=hB
 have hn':x+1 < l.length:=by simpa using hn
 have htl:(l.take x).length=x:=by simp; omega
 have hdl:(l.drop (x+1)).length=l.toArray.size - (x+1):=by simp
 have inv0:HeadInv .any l.toArray (x+1) (Array.replicate l.toArray.size false) :=
  ⟨by simp,fun j oj _ hl=>(by rw [getD_replicate_false] at hl; cases hl),fun t _ ht=>getD_in (by simpa using ht) (getD_replicate_false _ _)⟩
 have H:=zk3 (P:=P) (w0:=w) (Tx:=Tx) (g:=l.toArray.size - (x+1)) (Lq:=fun a' F=>∀ w',Ext w w'->(∀ t,F t w')->wpList P l.toArray Q (l.drop (x+1)) a' w') K hsel hs hc hn (fun i hi=>by
   have:=List.all_eq_true.1 hP i (List.mem_range.2 hi)
   simp only [Bool.or_eq_true,Option.isNone_iff_eq_none] at this
   exact this) (l.take x) K 0 _ a (fun _ _=>True) (fun j hj=>by
  have hj':j < x:=by rw [htl] at hj; exact hj
  simp [hj']) (by simp) (by simpa using htl) inv0 (by rw [htl]; exact hlex) (by
   refine zoW (fun a' F ⟨o,d,ho,hg,hd,hok,hq⟩=>?_) _ _ _ _ h
   exact ⟨o,ho,hg,hok,fun v w' he hF=>hq v w' he (by have:=hF d; unfold zga at this; rw [if_pos hd] at this; exact this)⟩)
 refine wp_region_any hm ?_
 have:=zgm (Q':=Q) (g:=l.toArray.size - (x+1)) (zh8 hT) hTx (fun listed a' F w' hw hF hL=>by
  have:=wpAny_of_seq (md:=.any) (Q':=Q) (l.drop (x+1)) (x+1) listed a' w' (fun j=>by simp [List.getElem?_drop]) (by rw [hdl]; exact hL.1) (hL.2 w' hw hF)
  rwa [hdl] at this) _ _ _ _ ({ w with drawn:=w.drawn+1 }) ((Ext.refl w).drew) (fun _=>trivial) (fun _ _ _ _ h=>h) H
 rw [htl,show x+1+(l.toArray.size - (x+1))=l.toArray.size by omega] at this
 exact this

end
open Go Go.RowKit

theorem zb7 {P:Program} (w:World) (t ty e:TypeId) (size:Nat) (hu:P.underlying t=some (.slice e)) (hsz:(P.info? e).map (·.size)=some size) (base g n:Nat) (v:Value) (cs old:List Value)
  (hown:w.ownsRow base e size (.slice (some ⟨g,0,none⟩) n n) n old) (hv:Row w size v n cs) (h1:∀ u ∈ cs,u.oneCell'=true) :
  ∃ w',(Builtin.copy_ #[t,t] ty #[.slice (some ⟨g,0,none⟩) n n,v]).run P w=.ok (goInt n) w'/\w'.ownsRow base e size (.slice (some ⟨g,0,none⟩) n n) n cs/\w.grownBy w' (some g):=by
 obtain ⟨hl,ao,cap,rfl,hc,hm,hnil,hcell⟩:=hv
 obtain ⟨ho,ho'⟩:=hown
 rcases ho' with ⟨h,_⟩ | ⟨g',cap',cur,h,hb,hg,hn,hm',hs,ht⟩
 ·simp at h
 simp only [Value.slice.injEq,Option.some.injEq,Addr.mk.injEq,and_true,true_and] at h
 obtain ⟨rfl,rfl⟩:=h
 cases hq:P.info? e with
 | none=>simp [hq] at hsz
 | some i =>
  have hi:i.size=size:=by simpa [hq] using hsz
  cases ao with
  | none =>
   have hcap:=hnil rfl
   subst hcap
   have h0:n=0:=by omega
   subst h0
   have:cs=[]:=List.eq_nil_of_length_eq_zero (by simpa using hl)
   subst this
   refine ⟨w,by simp [Builtin.copy_,run_underlying hu,Builtin.lenOf,Builtin.firstCells,sizeOf,typeInfo,hq,storeCells],⟨by simp,.inr ⟨g,0,cur,rfl,hb,hg,Nat.le_refl _,hm',by simpa using hs,by simp⟩⟩,World.grownBy.refl _ _⟩
  | some ad =>
   have hsrc:∀ j u,cs[j]?=some u->w.cell? (ad.add j)=some u:=fun j u hj=>by
    obtain ⟨b',off',e',hc'⟩:=hcell j u hj
    simp only [Option.some.injEq] at e'
    subst e'
    rw [add_plain]; exact hc'
   have hld:=run_loadCells_list (P:=P) w ad cs hsrc
   have hst:=run_storeCells_at P g 0 e cs 0 cur w hg (by rw [hl,hs]; omega) h1
   simp only [Nat.add_zero,Nat.zero_add,List.take_zero,List.nil_append] at hst
   rw [hl] at hld
   refine ⟨w.setRow g (cs++cur.toList.drop cs.length).toArray,by simp [Builtin.copy_,run_underlying hu,Builtin.lenOf,Builtin.firstCells,sizeOf,typeInfo,hq,hi,hld,hst],⟨hl,.inr ⟨g,n,_,rfl,hb,setRow_heap w g cur _ e _ hg,Nat.le_refl _,hm',?_,?_⟩⟩,⟨rfl,rfl,rfl,by simp [World.setRow],fun k _ hk=>setRow_other w g k _ (fun e=>hk (by simp [e]))⟩⟩
   ·simp; omega
   ·simp [<- hl]

theorem Rd.set4 {A:Nat->Prop} {φ:World->Prop} {w:World} (h:Rd A φ w) {b:Nat} (hb:¬ A b) (u v x y:Value):Rd A φ ((((w.setCell ⟨b,0,none⟩ u).setCell ⟨b,1,none⟩ v).setCell ⟨b,2,none⟩ x).setCell ⟨b,3,none⟩ y) :=
 (((h.set hb 0 u).set hb 1 v).set hb 2 x).set hb 3 y

open Go Go.RowKit

theorem zec {w:World} {b:Nat} {cs:Array Value} {t:TypeId} (h:w.heap[b]?=some (.cells cs t (0,0))):∀ i,w.cell? ⟨b,i,none⟩=cs[i]?:=fun i=>by simp [World.cell?,h]
theorem zfB {w:World} {b:Nat} {cs:Array Value} {t:TypeId} (h:w.heap[b]?=some (.cells cs t (0,0))):∀ i,w.frozen? ⟨b,i,none⟩=false:=fun i=>by simp [World.frozen?,h]

def zfL (w:World) (b:Nat):Nat->List Value->World
 | _,[]=>w
 | o,v::l=>zfL (w.setCell ⟨b,o,none⟩ v) b (o+1) l
def zkA (cs:Array Value):Nat->List Value->Array Value
 | _,[]=>cs
 | o,v::l=>zkA (cs.setIfInBounds o v) (o+1) l

theorem zka {k b:Nat} (hk:k≠b):∀ (vs:List Value) (w:World) (o:Nat),(zfL w b o vs).heap[k]?=w.heap[k]?
 | [],_,_=>rfl
 | v::l,w,o=>by
  show (zfL (w.setCell ⟨b,o,none⟩ v) b (o+1) l).heap[k]?=_
  rw [zka hk l,Below.heap_setCell w _ v k (fun e=>hk e)]
theorem zir (b:Nat):∀ (vs:List Value) (w:World) (o:Nat),(zfL w b o vs).heap.size=w.heap.size
 | [],_,_=>rfl
 | v::l,w,o=>by
  show (zfL (w.setCell ⟨b,o,none⟩ v) b (o+1) l).heap.size=_
  rw [zir b l]
  simp
theorem ziD {b:Nat} {t:TypeId}:∀ (vs:List Value) (w:World) (o:Nat) (cs:Array Value),w.heap[b]?=some (.cells cs t (0,0))->(zfL w b o vs).heap[b]?=some (.cells (zkA cs o vs) t (0,0))
 | [],_,_,_,h=>h
 | v::l,_,o,_,h=>ziD l _ (o+1) _ (heap_setCell_same _ _ o _ _ v h)
theorem Rd.put {A:Nat->Prop} {φ:World->Prop} {b:Nat} (hb:¬ A b):∀ (vs:List Value) {w:World} (_:Rd A φ w) (o:Nat),Rd A φ (zfL w b o vs)
 | [],_,h,_=>h
 | v::l,_,h,o=>Rd.put hb l (h.set hb o v) (o+1)
theorem Ext.put {a:World} {b:Nat} (hb:a.heap.size<=b):∀ (vs:List Value) {w:World} (_:Ext a w) (o:Nat),Ext a (zfL w b o vs)
 | [],_,h,_=>h
 | v::l,_,h,o=>Ext.put hb l (h.setCell hb v) (o+1)
theorem zpu (w:World) (b off:Nat):({ w with heap:=w.heap.setIfInBounds b (.cells #[] 0 (0,0)) }:World).cell? ⟨b,off,none⟩=none:=by
 unfold World.cell?
 by_cases hb:b < w.heap.size
 ·simp [hb]
 ·have:(w.heap.setIfInBounds b (Obj.cells #[] 0 (0,0)))[b]?=none:=Array.getElem?_eq_none (by simp; omega)
  simp [this]
theorem znE {A:Nat->Prop} {w:World} {X:Type} {size:Nat} {R:El X} {b off n cap:Nat} {xs:List X} (h:Rd A (fun w=>zas size R w (.slice (some ⟨b,off,none⟩) n cap) xs) w) (hs:0 < size) (hx:xs≠[]):A b:=by
 refine Classical.byContradiction fun hn=>?_
 obtain ⟨ao,cap',e,_,_,_,h5⟩:=(h { w with heap:=w.heap.setIfInBounds b (.cells #[] 0 (0,0)) } (fun k hk _=>by
  show (w.heap.setIfInBounds b (.cells #[] 0 (0,0)))[k]?=_
  rw [Array.getElem?_setIfInBounds_ne (fun e=>hn (by rw [e]; exact hk))])).form hs
 obtain ⟨x,hx0⟩:∃ x,xs[0]?=some x:=by cases xs with | nil=>exact absurd rfl hx | cons x _=>exact ⟨x,rfl⟩
 obtain ⟨b',off',c,e',hc,_,hcell⟩:=h5 0 x hx0
 simp only [Value.slice.injEq] at e
 rw [e'] at e
 simp only [Option.some.injEq,Addr.mk.injEq,and_true] at e
 obtain ⟨⟨rfl,rfl⟩,_⟩:=e
 have h0:∃ u,c[0]?=some u:=⟨c[0]'(by omega),List.getElem?_eq_getElem _⟩
 obtain ⟨u,hu⟩:=h0
 have:=hcell 0 u hu
 rw [zpu] at this
 cases this

theorem zdk {A:Nat->Prop} {w:World} {X:Type} {size:Nat} {R:El X} {v:Value} {xs:List X} (hs:0 < size) (h:Rd A (fun w=>zas size R w v xs) w):∃ css,Rd A (fun w=>zdq size R w css xs/\Row w size v xs.length css.flatten) w:=by
 obtain ⟨css,he,hr⟩:=h.o
 refine ⟨css,fun w2 h2=>?_⟩
 by_cases hx:xs=[]
 ·subst hx
  have:css=[]:=List.eq_nil_of_length_eq_zero he.1
  subst this
  obtain ⟨css2,he2,hr2⟩:=h w2 h2
  have:css2=[]:=List.eq_nil_of_length_eq_zero he2.1
  subst this
  exact ⟨zdq.nil _,hr2⟩
 obtain ⟨css2,he2,hr2⟩:=h w2 h2
 suffices hcc:css2=css by rw [<- hcc]; exact ⟨he2,hr2⟩
 obtain ⟨hl,ao,cap,e,_,_,h0,hc⟩:=hr
 obtain ⟨hl2,ao2,cap2,e2,_,_,_,hc2⟩:=hr2
 rw [e] at e2
 simp only [Value.slice.injEq,true_and] at e2
 obtain ⟨rfl,rfl⟩:=e2
 have hfl:css2.flatten=css.flatten:=by
  refine List.ext_getElem? fun j=>?_
  by_cases hj:j < css.flatten.length
  ·obtain ⟨u,hu⟩:∃ u,css.flatten[j]?=some u:=⟨_,List.getElem?_eq_getElem hj⟩
   obtain ⟨u2,hu2⟩:∃ u,css2.flatten[j]?=some u:=⟨_,List.getElem?_eq_getElem (by omega)⟩
   obtain ⟨b,off,ea,hcell⟩:=hc j u hu
   obtain ⟨b',off',ea',hcell'⟩:=hc2 j u2 hu2
   rw [ea] at ea'
   simp only [Option.some.injEq,Addr.mk.injEq,and_true] at ea'
   obtain ⟨rfl,rfl⟩:=ea'
   rw [e,ea] at h
   have hA:=znE h hs hx
   have hb:b < w.heap.size:=by
    by_cases hb:b < w.heap.size
    ·exact hb
    ·simp [World.cell?,Array.getElem?_eq_none (Nat.le_of_not_lt hb)] at hcell
   have hq:=h2 b hA hb
   simp only [World.cell?,hq] at hcell'
   simp only [World.cell?] at hcell
   rw [hu,hu2,<- hcell,<- hcell']
  ·rw [List.getElem?_eq_none (by omega),List.getElem?_eq_none (by omega)]
 have hlen:css2.length=css.length:=by rw [he2.1,he.1]
 refine List.ext_getElem? fun i=>?_
 by_cases hi:i < css.length
 ·have a1:css[i]?=some css[i]:=List.getElem?_eq_getElem hi
  have a2:css2[i]?=some (css2[i]'(by omega)):=List.getElem?_eq_getElem _
  rw [a1,a2]
  congr 1
  have l1:css[i].length=size:=he.sizes _ (List.getElem_mem hi)
  have l2:(css2[i]'(by omega)).length=size:=he2.sizes _ (List.getElem_mem _)
  refine List.ext_getElem? fun j=>?_
  by_cases hj:j < size
  ·have b1:css[i][j]?=some (css[i][j]'(by omega)):=List.getElem?_eq_getElem _
   have b2:(css2[i]'(by omega))[j]?=some ((css2[i]'(by omega))[j]'(by omega)):=List.getElem?_eq_getElem _
   have c1:=zc9 hs he.sizes a1 b1
   have c2:=zc9 hs he2.sizes a2 b2
   rw [hfl,c1] at c2
   rw [b1,b2,c2]
  ·rw [List.getElem?_eq_none (by omega),List.getElem?_eq_none (by omega)]
 ·rw [List.getElem?_eq_none (by omega),List.getElem?_eq_none (by omega)]

theorem zmF {A:Nat->Prop} {w:World} {X:Type} {size:Nat} {R:El X} {v:Value} {xs:List X} (hs:0 < size) (h:Rd A (fun w=>zas size R w v xs) w):∃ css,Rd A (fun w=>zdq size R w css xs) w/\Row w size v xs.length css.flatten:=by
 obtain ⟨css,h2⟩:=zdk hs h
 exact ⟨css,h2.left,h2.right.o⟩

theorem zfA {A:Nat->Prop} {base e size n:Nat} {X:Type} {R:El X} {v:Value} {css:List (List Value)} {xs:List X} {w:World} (hb:∀ k,base<=k->k < w.heap.size->A k) (he:Rd A (fun w=>zdq size R w css xs) w) (ho:w.ownsRow base e size v n css.flatten) (hs:0 < size):Rd A (fun w=>zas size R w v xs) w:=by
 have hn:n=xs.length:=by
  have h1:=ho.1
  have h2:=he.o.sizes
  have h3:=he.o.1
  have h4:css.flatten.length=css.length * size:=by
   clear ho h1 h3 he
   induction css with
   | nil=>simp
   | cons c css ih=>rw [List.flatten_cons,List.length_append,ih (fun d hd=>h2 d (by simp [hd])),h2 c (by simp),List.length_cons,Nat.add_mul]; omega
  rw [h4,h3] at h1
  exact (Nat.eq_of_mul_eq_mul_right hs h1).symm
 subst hn
 exact (he.and ((zdV ho).widen (fun k hk h=>hb k h hk))).imp fun w h=>⟨css,h.1,h.2⟩

theorem ztj {w:World} {size n b off m cap base:Nat} {cs:List Value} (h:Row w size (.slice (some ⟨b,off,none⟩) m cap) n cs) (hb:base<=b):Rd (fun k=>base<=k) (fun w=>Row w size (.slice (some ⟨b,off,none⟩) m cap) n cs) w:=fun w2 h2=>by
 by_cases hlt:b < w.heap.size
 ·refine Row.heap h (fun j u b' off' hj he=>?_)
  obtain ⟨m',cap',e⟩:=he
  simp only [Value.slice.injEq,Option.some.injEq,Addr.mk.injEq,and_true] at e
  obtain ⟨⟨rfl,rfl⟩,_⟩:=e
  exact h2 b hb hlt
 ·obtain ⟨h1,ao,c,e,h3,h4,h0,h5⟩:=h
  refine ⟨h1,ao,c,e,h3,h4,h0,fun j u hj=>?_⟩
  obtain ⟨b',off',e',hc⟩:=h5 j u hj
  simp only [Value.slice.injEq] at e
  rw [e'] at e
  simp only [Option.some.injEq,Addr.mk.injEq,and_true] at e
  obtain ⟨⟨rfl,rfl⟩,_⟩:=e
  simp [World.cell?,Array.getElem?_eq_none (Nat.le_of_not_lt hlt)] at hc
theorem zdy.rd {base:Nat} {w:World} {v:Value} {l:List UInt8} (h:zdy base w v l):Rd (fun k=>base<=k) (fun w=>zbd w v l) w:=by
 obtain ⟨b,off,n,cap,rfl,hb,h⟩:=h
 exact ztj h hb

theorem zfm {X:Type} {size:Nat} {R:El X} (w:World) (b off cap:Nat) (hc:cap<=maxLen):zas size R w (.slice (some ⟨b,off,none⟩) 0 cap) [] :=
 ⟨[],zdq.nil w,by simp,_,_,rfl,Nat.zero_le _,hc,(fun h=>by cases h),fun j u hj=>by simp at hj⟩
theorem zpe {size:Nat} (w:World) (b off cap:Nat) (hc:cap<=maxLen):Row w size (.slice (some ⟨b,off,none⟩) 0 cap) 0 [] :=
 ⟨by simp,_,_,rfl,Nat.zero_le _,hc,(fun h=>by cases h),fun j u hj=>by simp at hj⟩

theorem zcm:∀ (vs:List Value) (cs:Array Value) (o:Nat),o+vs.length<=cs.size->zkA cs o vs=(cs.toList.take o++vs++cs.toList.drop (o+vs.length)).toArray
 | [],cs,o,_=>by simp [zkA]
 | v::l,cs,o,h=>by
  simp only [List.length_cons] at h
  show zkA (cs.setIfInBounds o v) (o+1) l=_
  rw [zcm l _ (o+1) (by simp; omega)]
  congr 1
  simp only [Array.toList_setIfInBounds,List.length_cons]
  rw [List.take_add_one,List.take_set_of_le (Nat.le_refl o),List.getElem?_set_self (by simpa using (by omega:o < cs.size)),show o+1+l.length=o+(l.length+1) by omega,List.drop_set_of_lt (by omega)]
  simp
theorem zj8 (cs:Array Value) (vs:List Value) (h:vs.length=cs.size):zkA cs 0 vs=vs.toArray:=by
 rw [zcm vs cs 0 (by omega)]
 simp [h]
theorem zoU {w:World} {b:Nat} {cs:Array Value} {t:TypeId} (h:w.heap[b]?=some (.cells cs t (0,0))) (vs:List Value) (hl:vs.length=cs.size):(zfL w b 0 vs).heap[b]?=some (.cells vs.toArray t (0,0)):=by
 rw [<- zj8 cs vs hl]
 exact ziD vs w 0 cs h

theorem Rd.snoc {A:Nat->Prop} {X:Type} {R:El X} {size:Nat} {css:List (List Value)} {xs:List X} {c:List Value} {x:X} {w:World} (h1:Rd A (fun w=>zdq size R w css xs) w) (h2:Rd A (fun w=>R w c x) w) (hc:c.length=size):Rd A (fun w=>zdq size R w (css++[c]) (xs++[x])) w :=
 (h1.and h2).imp fun _ h=>h.1.snoc hc h.2

def zgz {X:Type} (R:El X) (x:X) (e:Int) (r:Value) (w:World):Prop:=∃ cs:List Value,r=.tuple #[.agg cs.toArray,I e]/\R w cs x
theorem zdC {X:Type} {R:El X} {x:X} {e:Int} {r:Value} {A:Nat->Prop} {w:World} (h:Rd A (zgz R x e r) w):∃ cs:List Value,r=.tuple #[.agg cs.toArray,I e]/\Rd A (fun w=>R w cs x) w:=by
 obtain ⟨cs,e1,_⟩:=h.o
 refine ⟨cs,e1,fun w2 h2=>?_⟩
 obtain ⟨cs2,e2,h3⟩:=h w2 h2
 rw [e1] at e2
 have:cs=cs2:=by simpa using e2
 rw [this]
 exact h3
theorem zbT {X:Type} {R:El X} {x:X} {e:Int} {cs:List Value} {A:Nat->Prop} {w:World} (h:Rd A (fun w=>R w cs x) w):Rd A (zgz R x e (.tuple #[.agg cs.toArray,I e])) w:=h.imp fun _ h=>⟨cs,rfl,h⟩

theorem znT {w:World} {v:Sv} {box plan:Value}:zhm w [I v.gen,box,.bool v.busy,I v.now.client,I v.now.token,I v.now.call.kind,I v.now.call.name,I v.now.call.other,I v.now.call.n,plan,I v.says.err,I v.says.n] v↔zas 1 zcc w box v.box/\zax w plan v.plan:=by
 constructor
 ·rintro ⟨b,p,e,h1,h2⟩
  simp at e
  obtain ⟨rfl,rfl⟩:=e
  exact ⟨h1,h2⟩
 ·rintro ⟨h1,h2⟩
  exact ⟨box,plan,rfl,h1,h2⟩
theorem znn {A:Nat->Prop} {w:World} {cs:List Value} {v:Sv} (h:Rd A (fun w=>zhm w cs v) w):∃ box plan,cs=[I v.gen,box,.bool v.busy,I v.now.client,I v.now.token,I v.now.call.kind,I v.now.call.name,I v.now.call.other,I v.now.call.n,plan,I v.says.err,I v.says.n]/\Rd A (fun w=>zas 1 zcc w box v.box) w/\Rd A (fun w=>zax w plan v.plan) w:=by
 obtain ⟨b,p,rfl,_⟩:=h.o
 have h2:=h.imp fun _ h=>znT.1 h
 exact ⟨b,p,rfl,h2.left,h2.right⟩
theorem zdL {A:Nat->Prop} {w:World} {v:Sv} {box plan:Value} (h1:Rd A (fun w=>zas 1 zcc w box v.box) w) (h2:Rd A (fun w=>zax w plan v.plan) w):Rd A (fun w=>zhm w [I v.gen,box,.bool v.busy,I v.now.client,I v.now.token,I v.now.call.kind,I v.now.call.name,I v.now.call.other,I v.now.call.n,plan,I v.says.err,I v.says.n] v) w :=
 (h1.and h2).imp fun _ h=>znT.2 h
theorem zgo {w:World} {c:Cn} {calls box got:Value}:zcC w [calls,I c.at_,.bool c.sent,I c.gen,box,got] c↔zas 4 zdw w calls c.calls/\zas 1 zcc w box c.box/\zas 2 zd6 w got c.got:=by
 constructor
 ·rintro ⟨a,b,d,e,h1,h2,h3⟩
  simp at e
  obtain ⟨rfl,rfl,rfl⟩:=e
  exact ⟨h1,h2,h3⟩
 ·rintro ⟨h1,h2,h3⟩
  exact ⟨calls,box,got,rfl,h1,h2,h3⟩
theorem zd2 {A:Nat->Prop} {w:World} {cs:List Value} {c:Cn} (h:Rd A (fun w=>zcC w cs c) w):∃ calls box got,cs=[calls,I c.at_,.bool c.sent,I c.gen,box,got]/\Rd A (fun w=>zas 4 zdw w calls c.calls) w/\Rd A (fun w=>zas 1 zcc w box c.box) w/\Rd A (fun w=>zas 2 zd6 w got c.got) w:=by
 obtain ⟨a,b,d,rfl,_⟩:=h.o
 have h2:=h.imp fun _ h=>zgo.1 h
 exact ⟨a,b,d,rfl,h2.left,h2.right.left,h2.right.right⟩
theorem zc0 {A:Nat->Prop} {w:World} {c:Cn} {calls box got:Value} (h1:Rd A (fun w=>zas 4 zdw w calls c.calls) w) (h2:Rd A (fun w=>zas 1 zcc w box c.box) w) (h3:Rd A (fun w=>zas 2 zd6 w got c.got) w):Rd A (fun w=>zcC w [calls,I c.at_,.bool c.sent,I c.gen,box,got] c) w :=
 (h1.and (h2.and h3)).imp fun _ h=>zgo.2 h

open Go Go.RowKit

abbrev zaH (m:Mc) (c u a p box plan cl:Value):List Value :=
 [c,u,a,p,I m.server.gen,box,.bool m.server.busy,I m.server.now.client,I m.server.now.token,I m.server.now.call.kind,I m.server.now.call.name,I m.server.now.call.other,I m.server.now.call.n,plan,I m.server.says.err,I m.server.says.n,.bool m.up,I m.pause,I m.falls,cl]

structure RdM (A:Nat->Prop) (w:World) (m:Mc) (c u a p box plan cl:Value):Prop where
 cells:Rd A (fun w=>zby w c m.store.cells) w
 undo:Rd A (fun w=>zax w u m.store.undo) w
 answers:Rd A (fun w=>zas 4 zhL w a m.store.answers) w
 past:Rd A (fun w=>zas 6 zhn w p m.store.past) w
 box:Rd A (fun w=>zas 1 zcc w box m.server.box) w
 plan:Rd A (fun w=>zax w plan m.server.plan) w
 clients:Rd A (fun w=>zas 6 zcC w cl m.clients) w

section
variable {A B:Nat->Prop} {w w':World} {m:Mc} {c u a p box plan cl:Value}
theorem RdM.ext (h:RdM A w m c u a p box plan cl) (he:Ext w w'):RdM A w' m c u a p box plan cl:=⟨h.cells.ext he,h.undo.ext he,h.answers.ext he,h.past.ext he,h.box.ext he,h.plan.ext he,h.clients.ext he⟩
theorem RdM.widen (h:RdM A w m c u a p box plan cl) (hi:∀ k,k < w.heap.size->A k->B k):RdM B w m c u a p box plan cl:=⟨h.cells.widen hi,h.undo.widen hi,h.answers.widen hi,h.past.widen hi,h.box.widen hi,h.plan.widen hi,h.clients.widen hi⟩
theorem RdM.set (h:RdM A w m c u a p box plan cl) {b:Nat} (hb:¬ A b) (i:Nat) (x:Value):RdM A (w.setCell ⟨b,i,none⟩ x) m c u a p box plan cl:=⟨h.cells.set hb i x,h.undo.set hb i x,h.answers.set hb i x,h.past.set hb i x,h.box.set hb i x,h.plan.set hb i x,h.clients.set hb i x⟩
theorem RdM.put (h:RdM A w m c u a p box plan cl) {b:Nat} (hb:¬ A b) (vs:List Value) (o:Nat):RdM A (zfL w b o vs) m c u a p box plan cl:=⟨Rd.put hb vs h.cells o,Rd.put hb vs h.undo o,Rd.put hb vs h.answers o,Rd.put hb vs h.past o,Rd.put hb vs h.box o,Rd.put hb vs h.plan o,Rd.put hb vs h.clients o⟩
theorem RdM.mc (h:RdM A w m c u a p box plan cl):Rd A (fun w=>zc1 w (zaH m c u a p box plan cl) m) w :=
 ((zdJ h.cells h.undo h.answers h.past).and ((zdL h.box h.plan).and h.clients)).imp fun _ h=>⟨_,_,_,rfl,h.1,h.2.1,h.2.2⟩
theorem zbX {cs:List Value} (h:Rd A (fun w=>zc1 w cs m) w):∃ c u a p box plan cl,cs=zaH m c u a p box plan cl/\RdM A w m c u a p box plan cl:=by
 obtain ⟨s,v,cl,e,⟨c,u,a,p,e1,_⟩,⟨box,plan,e2,_⟩,_⟩:=h.o
 subst e1 e2
 have key:∀ w',zc1 w' cs m->zcn w' [c,u,a,p] m.store/\zhm w' _ m.server/\zas 6 zcC w' cl m.clients:=fun w' hw=>by
  obtain ⟨s',v',cl',e',h1,h2,h3⟩:=hw
  obtain ⟨c',u',a',p',rfl,_⟩:=id h1
  obtain ⟨box',plan',rfl,_⟩:=id h2
  rw [e] at e'
  simp at e'
  obtain ⟨rfl,rfl,rfl,rfl,rfl,rfl,rfl⟩:=e'
  exact ⟨h1,h2,h3⟩
 have h1:=h.imp fun w' hw=>(key w' hw).1
 have h2:=h.imp fun w' hw=>(key w' hw).2.1
 have h3:=h.imp fun w' hw=>(key w' hw).2.2
 have s1:=h1.imp fun _ h=>zcK.1 h
 have s2:=h2.imp fun _ h=>znT.1 h
 exact ⟨c,u,a,p,box,plan,cl,e,s1.left,s1.right.left,s1.right.right.left,s1.right.right.right,s2.left,s2.right,h3⟩
theorem RdM.slices (h:RdM A w m c u a p box plan cl):∃ ca cc ua uc aa ac pa pc xa xc la lc ka kc,c=.slice ca m.store.cells.length cc/\u=.slice ua m.store.undo.length uc/\a=.slice aa m.store.answers.length ac/\p=.slice pa m.store.past.length pc/\box=.slice xa m.server.box.length xc/\plan=.slice la m.server.plan.length lc/\cl=.slice ka m.clients.length kc:=by
 obtain ⟨ca,cc,h1⟩:=zao h.cells.o
 obtain ⟨ua,uc,h2⟩:=zao h.undo.o
 obtain ⟨aa,ac,h3⟩:=zag h.answers.o
 obtain ⟨pa,pc,h4⟩:=zag h.past.o
 obtain ⟨xa,xc,h5⟩:=zag h.box.o
 obtain ⟨la,lc,h6⟩:=zao h.plan.o
 obtain ⟨ka,kc,h7⟩:=zag h.clients.o
 exact ⟨ca,cc,ua,uc,aa,ac,pa,pc,xa,xc,la,lc,ka,kc,h1,h2,h3,h4,h5,h6,h7⟩
end
open Go Go.RowKit

structure Made (w w':World) (b:Nat) (o:Obj):Prop where
 at_:b=w.heap.size
 block:w'.heap[b]?=some o
 ext:Ext w w'
 size:w'.heap.size=b+1
theorem zm6 (w:World) (o:Obj):Made w (w.alloc o) w.heap.size o:=⟨rfl,heap_alloc_new w o,(Ext.refl w).alloc o,by simp⟩

structure Wrote (w w':World) (b:Nat) (cs:Array Value) (t:TypeId):Prop where
 block:w'.heap[b]?=some (.cells cs t (0,0))
 grown:w.grownBy w' (some b)
 size:w'.heap.size=w.heap.size
theorem wrote {w:World} {b off:Nat} {cs:Array Value} {t:TypeId} (h:w.heap[b]?=some (.cells cs t (0,0))) (vs:List Value):Wrote w (zfL w b off vs) b (zkA cs off vs) t:=by
 refine ⟨ziD vs w off cs h,?_,zir b vs w off⟩
 have key:∀ (vs:List Value) (w:World) (o:Nat),(zfL w b o vs).os=w.os/\(zfL w b o vs).tape=w.tape/\(zfL w b o vs).output=w.output:=by
  intro vs
  induction vs with
  | nil=>intro w o; exact ⟨rfl,rfl,rfl⟩
  | cons v l ih=>intro w o; exact ih (w.setCell ⟨b,o,none⟩ v) (o+1)
 obtain ⟨h1,h2,h3⟩:=key vs w off
 exact ⟨h1,h2,h3,Nat.le_of_eq (zir b vs w off).symm,fun k _ hk=>zka (fun e=>hk (by rw [e])) vs w off⟩

theorem Made.old {w w':World} {b:Nat} {o:Obj} (h:Made w w' b o) {k:Nat} {x:Obj} (hk:w.heap[k]?=some x):w'.heap[k]?=some x:=by
 rw [h.ext.block k (Array.getElem?_eq_some_iff.1 hk).1]
 exact hk
theorem Wrote.old {w w':World} {b:Nat} {cs:Array Value} {t:TypeId} (h:Wrote w w' b cs t) {k:Nat} {x:Obj} (hk:w.heap[k]?=some x) (hne:k≠b):w'.heap[k]?=some x:=by
 rw [h.grown.block k (Array.getElem?_eq_some_iff.1 hk).1 (fun e=>hne (by simpa using e))]
 exact hk
theorem Wrote.ext {a w w':World} {b:Nat} {cs:Array Value} {t:TypeId} (h:Wrote w w' b cs t) (he:Ext a w) (hb:a.heap.size<=b):Ext a w':=he.grown h.grown (fun k hk=>by cases hk; exact hb)
theorem Wrote.rd {w w':World} {b:Nat} {cs:Array Value} {t:TypeId} (h:Wrote w w' b cs t) {A:Nat->Prop} {φ:World->Prop} (hr:Rd A φ w) (hb:¬ A b):Rd A φ w':=hr.grown h.grown (fun k hk=>by cases hk; exact hb)
theorem Wrote.owns {w w':World} {b:Nat} {cs:Array Value} {t:TypeId} (h:Wrote w w' b cs t) {base e size n:Nat} {v:Value} {xs:List Value} (ho:w.ownsRow base e size v n xs) (hb:v.ownBlock≠some b):w'.ownsRow base e size v n xs:=ho.kept h.grown (.inr hb)
theorem Wrote.rdM {w w':World} {b:Nat} {cs:Array Value} {t:TypeId} (h:Wrote w w' b cs t) {A:Nat->Prop} {m:Mc} {c u a p box plan cl:Value} (hr:RdM A w m c u a p box plan cl) (hb:¬ A b):RdM A w' m c u a p box plan cl :=
 ⟨h.rd hr.cells hb,h.rd hr.undo hb,h.rd hr.answers hb,h.rd hr.past hb,h.rd hr.box hb,h.rd hr.plan hb,h.rd hr.clients hb⟩
theorem zbW {w w':World} {k:Nat} {x:Obj} (hk:w.heap[k]?=some x) (he:Ext w w'):w'.heap[k]?=some x:=by
 rw [he.block k (Array.getElem?_eq_some_iff.1 hk).1]
 exact hk
theorem zaa {w:World} {b i:Nat} {cs:Array Value} {t:TypeId} {u:Value} (h:w.heap[b]?=some (.cells cs t (0,0))) (hi:cs[i]?=some u):w.cell? ⟨b,i,none⟩=some u:=by
 rw [zec h,hi]

/-! ### The same, hidden, in few signs -/
section
variable {w w' a:World} {b k:Nat} {o x:Obj} {cs:Array Value} {t:TypeId} {A B:Nat->Prop} {φ:World->Prop}
theorem zmo (m:Hid (Made w w' b o)) (h:Hid (w.heap[k]?=some x)):Hid (w'.heap[k]?=some x):=m.o.old h.o
theorem zwg (m:Hid (Wrote w w' b cs t)) (h:Hid (w.heap[k]?=some x)) (d:Hid (b < k)):Hid (w'.heap[k]?=some x):=m.o.old h.o (Nat.ne_of_gt d.o)
theorem zwl (m:Hid (Wrote w w' b cs t)) (h:Hid (w.heap[k]?=some x)) (d:Hid (k < b)):Hid (w'.heap[k]?=some x):=m.o.old h.o (Nat.ne_of_lt d.o)
theorem zme (m:Hid (Made w w' b o)) (s:Hid (Rd A φ w)):Hid (Rd A φ w'):=s.o.ext m.o.ext
theorem zwr (m:Hid (Wrote w w' b cs t)) (s:Hid (Rd A φ w)) (n:Hid (¬ A b)):Hid (Rd A φ w'):=m.o.rd s.o n.o
theorem zld (h:Hid (w.heap[k]?=some x)) (m:Hid (Made w w' b o)):Hid (k < b):=by
 unfold Hid
 have q:=(Array.getElem?_eq_some_iff.1 h.o).1
 have q2:=m.o.at_
 omega
theorem zet (e:Hid (Ext a w)) (m:Hid (Made w w' b o)):Hid (Ext a w'):=e.o.trans m.o.ext
theorem zwe (m:Hid (Wrote w w' b cs t)) (e:Hid (Ext a w)) (h:Hid (a.heap.size<=b)):Hid (Ext a w'):=m.o.ext e.o h.o
theorem zmb (m:Hid (Made w w' b o)):Hid (w'.heap[b]?=some o):=m.o.block
theorem zwb (m:Hid (Wrote w w' b cs t)):Hid (w'.heap[b]?=some (.cells cs t (0,0))):=m.o.block
theorem znb {s n i:Nat} {p q r:Prop} (H:Hid (p/\q/\(∀ k,s<=k->k < s+n->¬ B k)/\r)) (e:Hid (b=s+i)) (hi:i < n):Hid (¬ B b):=H.o.2.2.1 b (by have:=e.o; omega) (by have:=e.o; omega)
theorem zob {s i:Nat} (e:Hid (b=s+i)):Hid (s<=b):=by unfold Hid; have:=e.o; omega
theorem znw {C:Nat->Prop} {g:Nat} (h:Hid (∀ k,C k↔(B k/\k≠g))) (n:Hid (¬ B b)):Hid (¬ C b):=fun q=>n.o ((h.o _).1 q).1
theorem zmd {C:Nat->Prop} (h:Hid (∀ k,C k↔(B k/\k≠b))) (m:Hid (Made w w' b o)) (s:Hid (Rd B φ w)):Hid (Rd C φ w):=s.o.widen fun k hk q=>(h.o k).2 ⟨q,by have:=m.o.at_; omega⟩
end

section
variable {P:Program} {ops:Array Oper} {rest:List Oper} {o:Oper} {a:Act} {w:World} {Q:Exit->Act->World->Prop}

theorem zd0 (ty:TypeId) {x:Operand} {d:Option Tmp} {t:TypeId} {p:String} {af:Array Edge} {g:Option (Nat×Bool)} (h:Hid (wpList P ops Q (⟨d,.load ty x,t,p,af,g⟩::rest) a w)):wpList P ops Q (⟨d,.load ty x,t,p,af,g⟩::rest) a w:=h
theorem zen {ty:TypeId} {x y:Operand} {d:Option Tmp} {t:TypeId} {p:String} {af:Array Edge} {g:Option (Nat×Bool)} (h:Hid (wpList P ops Q (⟨d,.store ty x y,t,p,af,g⟩::rest) a w)):wpList P ops Q (⟨d,.store ty x y,t,p,af,g⟩::rest) a w:=h
theorem zmP {ty:TypeId} {x:Operand} {d:Option Tmp} {t:TypeId} {p:String} {af:Array Edge} {g:Option (Nat×Bool)} (h:Hid (wpList P ops Q (⟨d,.box ty x,t,p,af,g⟩::rest) a w)):wpList P ops Q (⟨d,.box ty x,t,p,af,g⟩::rest) a w:=h
theorem zjO {ty:TypeId} {d:Option Tmp} {t:TypeId} {p:String} {af:Array Edge} {g:Option (Nat×Bool)} (h:Hid (wpList P ops Q (⟨d,.alloc ty,t,p,af,g⟩::rest) a w)):wpList P ops Q (⟨d,.alloc ty,t,p,af,g⟩::rest) a w:=h
theorem zjQ {ty:TypeId} {x:Array (Nat×Operand)} {d:Option Tmp} {t:TypeId} {p:String} {af:Array Edge} {g:Option (Nat×Bool)} (h:Hid (wpList P ops Q (⟨d,.build ty x,t,p,af,g⟩::rest) a w)):wpList P ops Q (⟨d,.build ty x,t,p,af,g⟩::rest) a w:=h
theorem zmu {ty:TypeId} {n:Nat} {x:Array (Nat×Operand)} {d:Option Tmp} {t:TypeId} {p:String} {af:Array Edge} {g:Option (Nat×Bool)} (h:Hid (wpList P ops Q (⟨d,.buildSlice ty n x,t,p,af,g⟩::rest) a w)):wpList P ops Q (⟨d,.buildSlice ty n x,t,p,af,g⟩::rest) a w:=h

theorem zss {ty:TypeId} {x y:Operand} {d:Option Tmp} {t:TypeId} {p:String} {af:Array Edge} {g:Option (Nat×Bool)} (h:Hid (wpList P ops Q (⟨d,.store ty x y,t,p,af,g⟩::rest) a w)):wpList P ops Q (⟨d,.store ty x y,t,p,af,g⟩::rest) a w:=h
theorem zcw (hg:o.guard=none) (e:TypeId) (n:Nat) (cells:Array Value) (hrun:(execOp a.eval o).run P w=.ok (.value (.slice (some ⟨w.heap.size,0,none⟩) n n)) (w.alloc (.cells cells e)))
  (h:∀ b w',Hid (Made w w' b (.cells cells e))->wpList P ops Q rest (a.put o.dst (.slice (some ⟨b,0,none⟩) n n)) w'):wpList P ops Q (o::rest) a w:=by
 refine wpList_plain hg fun K hK=>?_
 unfold Oper.wp
 rw [hrun,Oper.upon_value]
 exact hK _ _ (h _ _ (zm6 w _))

theorem zaj (hg:o.guard=none) (t:TypeId) (x:Operand) (ho:o.op=.box t x) (cells:Array Value) (hx:(a.eval x).cells=cells)
  (h:∀ b w',Hid (Made w w' b (.cells cells t))->wpList P ops Q rest (a.put o.dst (.pointer (some ⟨b,0,none⟩))) w'):Hid (wpList P ops Q (o::rest) a w):=by
 unfold Hid
 exact
  Go.Great.wpList_boxTo hg t x ho o.dst rfl w.heap.size rfl cells hx (h _ _ (zm6 w _))

theorem zae (hg:o.guard=none) (t:TypeId) (cells:Array Value) (hrun:(execOp a.eval o).run P w=.ok (.value (.pointer (some ⟨w.heap.size,0,none⟩))) (w.alloc (.cells cells t)))
  (h:∀ b w',Hid (Made w w' b (.cells cells t))->wpList P ops Q rest (a.put o.dst (.pointer (some ⟨b,0,none⟩))) w'):Hid (wpList P ops Q (o::rest) a w):=by
 unfold Hid
 refine wpList_plain hg fun K hK=>?_
 unfold Oper.wp
 rw [hrun,Oper.upon_value]
 exact hK _ _ (h _ _ (zm6 w _))

theorem zrf {b off:Nat} {cs:Array Value} {t:TypeId} (hg:w.heap[b]?=some (.cells cs t (0,0))) (vs:List Value) (hsub:(cs.toList.drop off).take vs.length=vs):w.rangeAt b off vs:=fun j v hj=>by
 rw [zec hg]
 have hj2:j < vs.length:=(List.getElem?_eq_some_iff.1 hj).1
 rw [<- hsub,List.getElem?_take,if_pos hj2,List.getElem?_drop] at hj
 rw [<- hj]
 simp

theorem zbP {ρ:Operand->Value} (ty:TypeId) (x:Operand) (ho:o.op=.load ty x) (b off:Nat) (hx:ρ x=.pointer (some ⟨b,off,none⟩)) {cs:Array Value} {t:TypeId} (hg:w.heap[b]?=some (.cells cs t (0,0)))
  (vs:List Value) (hsub:(cs.toList.drop off).take vs.length=vs) {fs:Array Field} (hu:P.underlying ty=some (.struct fs)) (hi:(P.info? ty).map (·.size)=some vs.length) :
  (execOp ρ o).run P w=.ok (.value (.agg vs.toArray)) w:=by
 unfold execOp
 simp only [ho,hx,Instr.loadAt,Instr.sureAddr,Sem.run_bind,Sem.run_pure,Result.andThen_ok,run_loadVar_mid w b off ty vs (.struct fs) (zrf hg vs hsub) hu rfl hi]

theorem zgs (hgd:o.guard=none) (ty:TypeId) (x:Operand) (ho:o.op=.load ty x) (b off:Nat) (hx:a.eval x=.pointer (some ⟨b,off,none⟩)) {cs:Array Value} {t:TypeId} (hg:w.heap[b]?=some (.cells cs t (0,0)))
  (vs:List Value) (hsub:(cs.toList.drop off).take vs.length=vs) {fs:Array Field} (hu:P.underlying ty=some (.struct fs)) (hi:(P.info? ty).map (·.size)=some vs.length)
  (h:∀ v,Hid (v=.agg vs.toArray)->wpList P ops Q rest (a.put o.dst v) w):wpList P ops Q (o::rest) a w:=by
 refine wpList_plain hgd fun K hK=>?_
 unfold Oper.wp
 rw [zbP ty x ho b off hx hg vs hsub hu hi,Oper.upon_value]
 exact hK _ _ (h _ rfl)

theorem zhu (b:Nat):∀ (vs:List Value) (o:Nat) (w:World),w.setCells b o vs=zfL w b o vs
 | [],_,_=>rfl
 | v::l,o,w=>zhu b l (o+1) (w.setCell ⟨b,o,none⟩ v)

theorem zjX (ty:TypeId) (b off:Nat) (v:Value) (vs:List Value) (hv:v.cells=vs.toArray) {cs:Array Value} {t:TypeId} (hg:w.heap[b]?=some (.cells cs t (0,0))) (hfit:off+vs.length<=cs.size)
  (hi:(P.info? ty).map (·.size)=some vs.length) (h1:∀ u ∈ vs,u.oneCell'=true) :
  (Instr.storeAt ty (.pointer (some ⟨b,off,none⟩)) v).run P w=.ok () (zfL w b off vs):=by
 have:=run_storeCells_cells (P:=P) b off vs 0 w (fun j hj=>by
   rw [Nat.add_zero,zec hg,Array.getElem?_eq_getElem (by omega)]; rfl) (fun j hj=>zfB hg _) h1
 cases hq:P.info? ty with
 | none=>simp [hq] at hi
 | some i =>
  have hs:vs.length=i.size:=by simp [hq] at hi; omega
  simp only [Nat.add_zero] at this
  rw [<- zhu]
  simp only [Instr.storeAt,Instr.sureAddr,Sem.run_bind,Sem.run_pure,Result.andThen_ok]
  simp [storeVar,sizeOf,typeInfo,hq,hv,hs,this]

theorem zcG (hgd:o.guard=none) (ty:TypeId) (x y:Operand) (ho:o.op=.store ty x y) (b off:Nat) (hx:a.eval x=.pointer (some ⟨b,off,none⟩)) (vs:List Value) (hv:(a.eval y).cells=vs.toArray)
  {cs:Array Value} {t:TypeId} (hg:w.heap[b]?=some (.cells cs t (0,0))) (hfit:off+vs.length<=cs.size) (hi:(P.info? ty).map (·.size)=some vs.length) (h1:∀ u ∈ vs,u.oneCell'=true)
  (new:Array Value) (hnew:zkA cs off vs=new) (h:∀ w',Hid (Wrote w w' b new t)->wpList P ops Q rest (a.put o.dst undef) w'):wpList P ops Q (o::rest) a w:=by
 refine wpList_plain hgd fun K hK=>?_
 unfold Oper.wp execOp
 simp only [ho,hx,Sem.run_bind,Sem.run_pure,Result.andThen_ok,zjX ty b off (a.eval y) vs hv hg hfit hi h1]
 have hw:Hid (Wrote w (zfL w b off vs) b new t):=by
  rw [<- hnew]
  exact wrote hg vs
 exact hK _ _ (h _ hw)

theorem zaX (hg:o.guard=none) (t:TypeId) (parts:Array (Nat×Operand)) (ho:o.op=.build t parts) (cells:Array Value) (hf:P.built t (parts.map fun (i,x)=>(i,a.eval x)).toList=some cells)
  (h:∀ v,Hid (v=.agg cells)->wpList P ops Q rest (a.put o.dst v) w):Hid (wpList P ops Q (o::rest) a w):=by
 unfold Hid
 refine wpList_build hg t parts ho (by rw [hf]; rfl) ?_
 rw [hf]
 exact h _ rfl

theorem zaq {w:World} {b:Nat} {cs:Array Value} {t:TypeId} (ty:TypeId) {fs:Array Field} (hg:w.heap[b]?=some (.cells cs t (0,0))) (hu:P.underlying ty=some (.struct fs)) (hi:(P.info? ty).map (·.size)=some cs.size) :
  (loadVar ty ⟨b,0,none⟩).run P w=.ok (.agg cs) w:=run_loadVar_row w b t ty cs (0,0) (.struct fs) hg hu rfl hi
end

section
variable {w w1 w2:World} {b c s i:Nat} {o o2:Obj} {B C:Nat->Prop} {m:Mc} {vc vu va vp vb vl vx:Value} {cs:Array Value} {t:TypeId}
theorem zA0 (m:Hid (Made w w1 b o)):Hid (b=w.heap.size+0):=m.o.at_
theorem zA1 (a:Hid (b=s+i)) (m:Hid (Made w w1 b o)) (n:Hid (Made w1 w2 c o2)):Hid (c=s+(i+1)):=by
 unfold Hid
 have q:=a.o
 have q1:=m.o.size
 have q2:=n.o.at_
 omega
theorem zNn (h:Hid (∀ k,C k↔(B k/\k≠b))):Hid (¬ C b):=fun q=>((h.o _).1 q).2 rfl
theorem zIn (h:Hid (∀ k,C k↔(B k/\k≠b))):Hid (∀ k,C k->B k):=fun k q=>((h.o k).1 q).1
theorem zEx (B:Nat->Prop) (b:Nat):∃ X:Nat->Prop,Hid (∀ k,X k↔(B k/\k≠b)):=⟨_,fun _=>Iff.rfl⟩
theorem zOn (m:Hid (Made w1 w2 b o)) (e:Hid (Ext w w1)):Hid (w.heap.size<=b):=by
 unfold Hid
 have q:=m.o.at_
 have q2:=e.o.size
 omega
theorem zMD (h:Hid (∀ k,C k↔(B k/\k≠b))) (n:Hid (Made w w1 b o)) (r:Hid (RdM B w m vc vu va vp vb vl vx)):Hid (RdM C w m vc vu va vp vb vl vx):=r.o.widen fun k hk q=>(h.o k).2 ⟨q,by have q2:=n.o.at_; omega⟩
theorem zHw (n:Hid (Wrote w w1 b cs t)) (r:Hid (RdM B w m vc vu va vp vb vl vx)) (h:Hid (¬ B b)):Hid (RdM B w1 m vc vu va vp vb vl vx):=n.o.rdM r.o h.o
end
end Go.Mk

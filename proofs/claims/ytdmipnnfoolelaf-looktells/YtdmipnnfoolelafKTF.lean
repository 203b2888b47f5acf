/- Texts of the proof, merged: Big Big2 Mem10 Held MathZ Math10. -/
import Derived.Test.YtdmipnnfoolelafKTA
import Derived.Test.YtdmipnnfoolelafKTE
import Derived.Deep.MidRow
import Derived.Great.Ranges
import Derived.OrdersHeld
import Derived.Test.YtdmipnnfoolelafKTB
import Derived.Test.YtdmipnnfoolelafKTD

namespace Go.Mk
open Go Go.RowKit

structure Made (w w':World) (b:Nat) (o:Obj):Prop where
 at_:b=w.heap.size
 block:w'.heap[b]?=some o
 ext:Ext w w'
 size:w'.heap.size=b+1
theorem zhE (w:World) (o:Obj):Made w (w.alloc o) w.heap.size o:=⟨rfl,heap_alloc_new w o,(Ext.refl w).alloc o,by simp⟩

structure Wrote (w w':World) (b:Nat) (cs:Array Value) (t:TypeId):Prop where
 block:w'.heap[b]?=some (.cells cs t (0,0))
 grown:w.grownBy w' (some b)
 size:w'.heap.size=w.heap.size
theorem znR {w:World} {b off:Nat} {cs:Array Value} {t:TypeId} (h:w.heap[b]?=some (.cells cs t (0,0))) (vs:List Value):Wrote w (zey w b off vs) b (zhO cs off vs) t:=by
 refine ⟨zgj vs w off cs h,?_,zgr b vs w off⟩
 have key:∀ (vs:List Value) (w:World) (o:Nat),(zey w b o vs).os=w.os/\(zey w b o vs).tape=w.tape/\(zey w b o vs).output=w.output:=by
  intro vs
  induction vs with
  | nil=>intro w o; exact ⟨rfl,rfl,rfl⟩
  | cons v l ih=>intro w o; exact ih (w.setCell ⟨b,o,none⟩ v) (o+1)
 obtain ⟨h1,h2,h3⟩:=key vs w off
 exact ⟨h1,h2,h3,Nat.le_of_eq (zgr b vs w off).symm,fun k _ hk=>zg8 (fun e=>hk (by rw [e])) vs w off⟩

theorem Made.old {w w':World} {b:Nat} {o:Obj} (h:Made w w' b o) {k:Nat} {x:Obj} (hk:w.heap[k]?=some x):w'.heap[k]?=some x:=by
 rw [h.ext.block k (Array.getElem?_eq_some_iff.1 hk).1]
 exact hk
theorem Wrote.old {w w':World} {b:Nat} {cs:Array Value} {t:TypeId} (h:Wrote w w' b cs t) {k:Nat} {x:Obj} (hk:w.heap[k]?=some x) (hne:k≠b):w'.heap[k]?=some x:=by
 rw [h.grown.block k (Array.getElem?_eq_some_iff.1 hk).1 (fun e=>hne (by simpa using e))]
 exact hk
theorem Wrote.ext {a w w':World} {b:Nat} {cs:Array Value} {t:TypeId} (h:Wrote w w' b cs t) (he:Ext a w) (hb:a.heap.size<=b):Ext a w':=he.grown h.grown (fun k hk=>by cases hk; exact hb)
theorem Wrote.rd {w w':World} {b:Nat} {cs:Array Value} {t:TypeId} (h:Wrote w w' b cs t) {A:Nat->Prop} {φ:World->Prop} (hr:Rd A φ w) (hb:¬ A b):Rd A φ w':=hr.grown h.grown (fun k hk=>by cases hk; exact hb)
theorem Wrote.owns {w w':World} {b:Nat} {cs:Array Value} {t:TypeId} (h:Wrote w w' b cs t) {base e size n:Nat} {v:Value} {xs:List Value} (ho:w.ownsRow base e size v n xs) (hb:v.ownBlock≠some b):w'.ownsRow base e size v n xs:=ho.kept h.grown (.inr hb)
theorem Wrote.rdM {w w':World} {b:Nat} {cs:Array Value} {t:TypeId} (h:Wrote w w' b cs t) {A:Nat->Prop} {m:Mc} {c u a p box plan cl:Value} (hr:RdM A w m c u a p box plan cl) (hb:¬ A b):RdM A w' m c u a p box plan cl :=
 ⟨h.rd hr.cells hb,h.rd hr.undo hb,h.rd hr.answers hb,h.rd hr.past hb,h.rd hr.box hb,h.rd hr.plan hb,h.rd hr.clients hb⟩
theorem zcy {w w':World} {k:Nat} {x:Obj} (hk:w.heap[k]?=some x) (he:Ext w w'):w'.heap[k]?=some x:=by
 rw [he.block k (Array.getElem?_eq_some_iff.1 hk).1]
 exact hk
theorem zaa {w:World} {b i:Nat} {cs:Array Value} {t:TypeId} {u:Value} (h:w.heap[b]?=some (.cells cs t (0,0))) (hi:cs[i]?=some u):w.cell? ⟨b,i,none⟩=some u:=by
 rw [zc7 h,hi]

/-! ### The same, hidden, in few signs -/
section
variable {w w' a:World} {b k:Nat} {o x:Obj} {cs:Array Value} {t:TypeId} {A B:Nat->Prop} {φ:World->Prop}
theorem zmo (m:Hid (Made w w' b o)) (h:Hid (w.heap[k]?=some x)):Hid (w'.heap[k]?=some x):=m.o.old h.o
theorem zwg (m:Hid (Wrote w w' b cs t)) (h:Hid (w.heap[k]?=some x)) (d:Hid (b < k)):Hid (w'.heap[k]?=some x):=m.o.old h.o (Nat.ne_of_gt d.o)
theorem zwl (m:Hid (Wrote w w' b cs t)) (h:Hid (w.heap[k]?=some x)) (d:Hid (k < b)):Hid (w'.heap[k]?=some x):=m.o.old h.o (Nat.ne_of_lt d.o)
theorem zme (m:Hid (Made w w' b o)) (s:Hid (Rd A φ w)):Hid (Rd A φ w'):=s.o.ext m.o.ext
theorem zwr (m:Hid (Wrote w w' b cs t)) (s:Hid (Rd A φ w)) (n:Hid (¬ A b)):Hid (Rd A φ w'):=m.o.rd s.o n.o
theorem zld (h:Hid (w.heap[k]?=some x)) (m:Hid (Made w w' b o)):Hid (k < b):=by
 unfold Hid
 have q:=(Array.getElem?_eq_some_iff.1 h.o).1
 have q2:=m.o.at_
 omega
theorem zet (e:Hid (Ext a w)) (m:Hid (Made w w' b o)):Hid (Ext a w'):=e.o.trans m.o.ext
theorem zwe (m:Hid (Wrote w w' b cs t)) (e:Hid (Ext a w)) (h:Hid (a.heap.size<=b)):Hid (Ext a w'):=m.o.ext e.o h.o
theorem zmb (m:Hid (Made w w' b o)):Hid (w'.heap[b]?=some o):=m.o.block
theorem zwb (m:Hid (Wrote w w' b cs t)):Hid (w'.heap[b]?=some (.cells cs t (0,0))):=m.o.block
theorem znb {s n i:Nat} {p q r:Prop} (H:Hid (p/\q/\(∀ k,s<=k->k < s+n->¬ B k)/\r)) (e:Hid (b=s+i)) (hi:i < n):Hid (¬ B b):=H.o.2.2.1 b (by have:=e.o; omega) (by have:=e.o; omega)
theorem zob {s i:Nat} (e:Hid (b=s+i)):Hid (s<=b):=by unfold Hid; have:=e.o; omega
theorem znw {C:Nat->Prop} {g:Nat} (h:Hid (∀ k,C k↔(B k/\k≠g))) (n:Hid (¬ B b)):Hid (¬ C b):=fun q=>n.o ((h.o _).1 q).1
theorem zmd {C:Nat->Prop} (h:Hid (∀ k,C k↔(B k/\k≠b))) (m:Hid (Made w w' b o)) (s:Hid (Rd B φ w)):Hid (Rd C φ w):=s.o.widen fun k hk q=>(h.o k).2 ⟨q,by have:=m.o.at_; omega⟩
end

section
variable {P:Program} {ops:Array Oper} {rest:List Oper} {o:Oper} {a:Act} {w:World} {Q:Exit->Act->World->Prop}

theorem zbQ (hg:o.guard=none) (e:TypeId) (n:Nat) (cells:Array Value) (hrun:(execOp a.eval o).run P w=.ok (.value (.slice (some ⟨w.heap.size,0,none⟩) n n)) (w.alloc (.cells cells e)))
  (h:∀ b w',Hid (Made w w' b (.cells cells e))->wpList P ops Q rest (a.put o.dst (.slice (some ⟨b,0,none⟩) n n)) w'):wpList P ops Q (o::rest) a w:=by
 refine wpList_plain hg fun K hK=>?_
 unfold Oper.wp
 rw [hrun,Oper.upon_value]
 exact hK _ _ (h _ _ (zhE w _))

theorem zal (hg:o.guard=none) (t:TypeId) (x:Operand) (ho:o.op=.box t x) (cells:Array Value) (hx:(a.eval x).cells=cells)
  (h:∀ b w',Hid (Made w w' b (.cells cells t))->wpList P ops Q rest (a.put o.dst (.pointer (some ⟨b,0,none⟩))) w'):Hid (wpList P ops Q (o::rest) a w):=by
 unfold Hid
 exact
  Go.Great.wpList_boxTo hg t x ho o.dst rfl w.heap.size rfl cells hx (h _ _ (zhE w _))

theorem zah (hg:o.guard=none) (t:TypeId) (cells:Array Value) (hrun:(execOp a.eval o).run P w=.ok (.value (.pointer (some ⟨w.heap.size,0,none⟩))) (w.alloc (.cells cells t)))
  (h:∀ b w',Hid (Made w w' b (.cells cells t))->wpList P ops Q rest (a.put o.dst (.pointer (some ⟨b,0,none⟩))) w'):Hid (wpList P ops Q (o::rest) a w):=by
 unfold Hid
 refine wpList_plain hg fun K hK=>?_
 unfold Oper.wp
 rw [hrun,Oper.upon_value]
 exact hK _ _ (h _ _ (zhE w _))

theorem zl9 {b off:Nat} {cs:Array Value} {t:TypeId} (hg:w.heap[b]?=some (.cells cs t (0,0))) (vs:List Value) (hsub:(cs.toList.drop off).take vs.length=vs):w.rangeAt b off vs:=fun j v hj=>by
 rw [zc7 hg]
 have hj2:j < vs.length:=(List.getElem?_eq_some_iff.1 hj).1
 rw [<- hsub,List.getElem?_take,if_pos hj2,List.getElem?_drop] at hj
 rw [<- hj]
 simp

theorem zbG {ρ:Operand->Value} (ty:TypeId) (x:Operand) (ho:o.op=.load ty x) (b off:Nat) (hx:ρ x=.pointer (some ⟨b,off,none⟩)) {cs:Array Value} {t:TypeId} (hg:w.heap[b]?=some (.cells cs t (0,0)))
  (vs:List Value) (hsub:(cs.toList.drop off).take vs.length=vs) {fs:Array Field} (hu:P.underlying ty=some (.struct fs)) (hi:(P.info? ty).map (·.size)=some vs.length) :
  (execOp ρ o).run P w=.ok (.value (.agg vs.toArray)) w:=by
 unfold execOp
 simp only [ho,hx,Instr.loadAt,Instr.sureAddr,Sem.run_bind,Sem.run_pure,Result.andThen_ok,run_loadVar_mid w b off ty vs (.struct fs) (zl9 hg vs hsub) hu rfl hi]

theorem zf8 (hgd:o.guard=none) (ty:TypeId) (x:Operand) (ho:o.op=.load ty x) (b off:Nat) (hx:a.eval x=.pointer (some ⟨b,off,none⟩)) {cs:Array Value} {t:TypeId} (hg:w.heap[b]?=some (.cells cs t (0,0)))
  (vs:List Value) (hsub:(cs.toList.drop off).take vs.length=vs) {fs:Array Field} (hu:P.underlying ty=some (.struct fs)) (hi:(P.info? ty).map (·.size)=some vs.length)
  (h:∀ v,Hid (v=.agg vs.toArray)->wpList P ops Q rest (a.put o.dst v) w):wpList P ops Q (o::rest) a w:=by
 refine wpList_plain hgd fun K hK=>?_
 unfold Oper.wp
 rw [zbG ty x ho b off hx hg vs hsub hu hi,Oper.upon_value]
 exact hK _ _ (h _ rfl)

theorem zfB (b:Nat):∀ (vs:List Value) (o:Nat) (w:World),w.setCells b o vs=zey w b o vs
 | [],_,_=>rfl
 | v::l,o,w=>zfB b l (o+1) (w.setCell ⟨b,o,none⟩ v)

theorem zhe (ty:TypeId) (b off:Nat) (v:Value) (vs:List Value) (hv:v.cells=vs.toArray) {cs:Array Value} {t:TypeId} (hg:w.heap[b]?=some (.cells cs t (0,0))) (hfit:off+vs.length<=cs.size)
  (hi:(P.info? ty).map (·.size)=some vs.length) (h1:∀ u ∈ vs,u.oneCell'=true) :
  (Instr.storeAt ty (.pointer (some ⟨b,off,none⟩)) v).run P w=.ok () (zey w b off vs):=by
 have:=run_storeCells_cells (P:=P) b off vs 0 w (fun j hj=>by
   rw [Nat.add_zero,zc7 hg,Array.getElem?_eq_getElem (by omega)]; rfl) (fun j hj=>zeo hg _) h1
 cases hq:P.info? ty with
 | none=>simp [hq] at hi
 | some i =>
  have hs:vs.length=i.size:=by simp [hq] at hi; omega
  simp only [Nat.add_zero] at this
  rw [<- zfB]
  simp only [Instr.storeAt,Instr.sureAddr,Sem.run_bind,Sem.run_pure,Result.andThen_ok]
  simp [storeVar,sizeOf,typeInfo,hq,hv,hs,this]

theorem zcH (hgd:o.guard=none) (ty:TypeId) (x y:Operand) (ho:o.op=.store ty x y) (b off:Nat) (hx:a.eval x=.pointer (some ⟨b,off,none⟩)) (vs:List Value) (hv:(a.eval y).cells=vs.toArray)
  {cs:Array Value} {t:TypeId} (hg:w.heap[b]?=some (.cells cs t (0,0))) (hfit:off+vs.length<=cs.size) (hi:(P.info? ty).map (·.size)=some vs.length) (h1:∀ u ∈ vs,u.oneCell'=true)
  (new:Array Value) (hnew:zhO cs off vs=new) (h:∀ w',Hid (Wrote w w' b new t)->wpList P ops Q rest (a.put o.dst undef) w'):wpList P ops Q (o::rest) a w:=by
 refine wpList_plain hgd fun K hK=>?_
 unfold Oper.wp execOp
 simp only [ho,hx,Sem.run_bind,Sem.run_pure,Result.andThen_ok,zhe ty b off (a.eval y) vs hv hg hfit hi h1]
 have hw:Hid (Wrote w (zey w b off vs) b new t):=by
  rw [<- hnew]
  exact znR hg vs
 exact hK _ _ (h _ hw)

theorem zbd (hg:o.guard=none) (t:TypeId) (parts:Array (Nat×Operand)) (ho:o.op=.build t parts) (cells:Array Value) (hf:P.built t (parts.map fun (i,x)=>(i,a.eval x)).toList=some cells)
  (h:∀ v,Hid (v=.agg cells)->wpList P ops Q rest (a.put o.dst v) w):Hid (wpList P ops Q (o::rest) a w):=by
 unfold Hid
 refine wpList_build hg t parts ho (by rw [hf]; rfl) ?_
 rw [hf]
 exact h _ rfl

theorem zay {w:World} {b:Nat} {cs:Array Value} {t:TypeId} (ty:TypeId) {fs:Array Field} (hg:w.heap[b]?=some (.cells cs t (0,0))) (hu:P.underlying ty=some (.struct fs)) (hi:(P.info? ty).map (·.size)=some cs.size) :
  (loadVar ty ⟨b,0,none⟩).run P w=.ok (.agg cs) w:=run_loadVar_row w b t ty cs (0,0) (.struct fs) hg hu rfl hi
end

section
variable {w w1 w2:World} {b c s i:Nat} {o o2:Obj} {B C:Nat->Prop} {m:Mc} {vc vu va vp vb vl vx:Value} {cs:Array Value} {t:TypeId}
theorem zA0 (m:Hid (Made w w1 b o)):Hid (b=w.heap.size+0):=m.o.at_
theorem zA1 (a:Hid (b=s+i)) (m:Hid (Made w w1 b o)) (n:Hid (Made w1 w2 c o2)):Hid (c=s+(i+1)):=by
 unfold Hid
 have q:=a.o
 have q1:=m.o.size
 have q2:=n.o.at_
 omega
theorem zNn (h:Hid (∀ k,C k↔(B k/\k≠b))):Hid (¬ C b):=fun q=>((h.o _).1 q).2 rfl
theorem zIn (h:Hid (∀ k,C k↔(B k/\k≠b))):Hid (∀ k,C k->B k):=fun k q=>((h.o k).1 q).1
theorem zEx (B:Nat->Prop) (b:Nat):∃ X:Nat->Prop,Hid (∀ k,X k↔(B k/\k≠b)):=⟨_,fun _=>Iff.rfl⟩
theorem zOn (m:Hid (Made w1 w2 b o)) (e:Hid (Ext w w1)):Hid (w.heap.size<=b):=by
 unfold Hid
 have q:=m.o.at_
 have q2:=e.o.size
 omega
theorem zMD (h:Hid (∀ k,C k↔(B k/\k≠b))) (n:Hid (Made w w1 b o)) (r:Hid (RdM B w m vc vu va vp vb vl vx)):Hid (RdM C w m vc vu va vp vb vl vx):=r.o.widen fun k hk q=>(h.o k).2 ⟨q,by have q2:=n.o.at_; omega⟩
theorem zHw (n:Hid (Wrote w w1 b cs t)) (r:Hid (RdM B w m vc vu va vp vb vl vx)) (h:Hid (¬ B b)):Hid (RdM B w1 m vc vu va vp vb vl vx):=n.o.rdM r.o h.o
end
open Go Go.RowKit

theorem zbx {w w':World} {k:Nat} {x:Obj} (h:Hid (w.heap[k]?=some x)) (e:Ext w w'):Hid (w'.heap[k]?=some x):=zcy h.o e
theorem zrx {w w':World} {A:Nat->Prop} {φ:World->Prop} (h:Hid (Rd A φ w)) (e:Ext w w'):Hid (Rd A φ w'):=h.o.ext e

section
variable {P:Program} {ops:Array Oper} {rest:List Oper} {o:Oper} {a:Act} {w:World} {Q:Exit->Act->World->Prop}
def znT (L:List Nat):Op->Bool
 | .load ty _=>L.contains ty
 | .store ..=>true
 | .box ..=>true
 | .alloc ..=>true
 | .build ..=>true
 | .buildSlice ..=>true
 | _=>false
def zoN:Op->Bool
 | .slice ..=>true
 | _=>false
theorem zst {L:List Nat} (_:znT L o.op=true) (h:Hid (wpList P ops Q (o::rest) a w)):wpList P ops Q (o::rest) a w:=h
theorem zT (h:Hid (wpList P ops Q (o::rest) a w)) (_:znT [43,40,30,61] o.op=true:=by with_unfolding_all exact rfl):wpList P ops Q (o::rest) a w:=h
theorem zsc (_:zoN o.op=true) (h:Hid (wpList P ops Q (o::rest) a w)):wpList P ops Q (o::rest) a w:=h
theorem zkJ (hg:o.guard=none) (n:Nat) (G:Option Addr->Nat->Prop) (h1:∃ na nc,G na nc/\(execOp a.eval o).run P w=.ok (.value (.slice na n nc)) w) (h:∀ na nc,G na nc->wpList P ops Q rest (a.put o.dst (.slice na n nc)) w):wpList P ops Q (o::rest) a w:=by
 obtain ⟨na,nc,hG,hrun⟩:=h1
 refine wpList_plain hg fun K hK=>?_
 unfold Oper.wp
 rw [hrun,Oper.upon_value]
 exact hK _ _ (h na nc hG)
theorem zcv {v:Value} {cs:List Value} (h:Hid (v=.agg cs.toArray)):v.cells=cs.toArray:=by rw [h.o]; rfl
theorem zai (hgd:o.guard=none) (ty:TypeId) (x:Operand) (ho:o.op=.load ty x) (b:Nat) (hx:a.eval x=.pointer (some ⟨b,0,none⟩)) {cs:List Value} {t:TypeId} (hg:Hid (w.heap[b]?=some (.cells cs.toArray t (0,0))))
  {fs:Array Field} (hu:P.underlying ty=some (.struct fs)) (hi:(P.info? ty).map (·.size)=some cs.length)
  (h:∀ v,Hid (v=.agg cs.toArray)->wpList P ops Q rest (a.put o.dst v) w):Hid (wpList P ops Q (o::rest) a w):=by
 unfold Hid
 exact
  zf8 hgd ty x ho b 0 hx hg.o cs (by simp) hu hi h
theorem zaf (hgd:o.guard=none) (ty:TypeId) (x y:Operand) (ho:o.op=.store ty x y) (b:Nat) (hx:a.eval x=.pointer (some ⟨b,0,none⟩)) (vs:List Value) (hv:(a.eval y).cells=vs.toArray)
  {cs:Array Value} {t:TypeId} (hg:Hid (w.heap[b]?=some (.cells cs t (0,0)))) (hfit:vs.length=cs.size) (hi:(P.info? ty).map (·.size)=some vs.length) (h1:vs.all (fun u=>u.oneCell')=true)
  (h:∀ w',Hid (Wrote w w' b vs.toArray t)->wpList P ops Q rest (a.put o.dst undef) w'):Hid (wpList P ops Q (o::rest) a w):=by
 unfold Hid
 exact
  zcH hgd ty x y ho b 0 hx vs hv hg.o (by omega) hi (zb9 h1) _ (zhA cs vs hfit) h
theorem zcz (hgd:o.guard=none) (ty:TypeId) (x:Operand) (ho:o.op=.load ty x) (b off:Nat) (hx:a.eval x=.pointer (some ⟨b,off,none⟩)) {cs:Array Value} {t:TypeId} (hg:Hid (w.heap[b]?=some (.cells cs t (0,0))))
  (vs:List Value) (hsub:(cs.toList.drop off).take vs.length=vs) {fs:Array Field} (hu:P.underlying ty=some (.struct fs)) (hi:(P.info? ty).map (·.size)=some vs.length)
  (h:∀ v,Hid (v=.agg vs.toArray)->wpList P ops Q rest (a.put o.dst v) w):Hid (wpList P ops Q (o::rest) a w):=by
 unfold Hid
 exact
  zf8 hgd ty x ho b off hx hg.o vs hsub hu hi h
theorem zap (hgd:o.guard=none) (ty:TypeId) (x y:Operand) (ho:o.op=.store ty x y) (b off:Nat) (hx:a.eval x=.pointer (some ⟨b,off,none⟩)) (vs:List Value) (hv:(a.eval y).cells=vs.toArray)
  {cs:Array Value} {t:TypeId} (hg:Hid (w.heap[b]?=some (.cells cs t (0,0)))) (hfit:(off+vs.length).ble cs.size=true) (hi:(P.info? ty).map (·.size)=some vs.length) (h1:vs.all (fun u=>u.oneCell')=true)
  (new:List Value) (hnew:cs.toList.take off++vs++cs.toList.drop (off+vs.length)=new) (h:∀ w',Hid (Wrote w w' b new.toArray t)->wpList P ops Q rest (a.put o.dst undef) w'):Hid (wpList P ops Q (o::rest) a w):=by
 unfold Hid
 exact
  zcH hgd ty x y ho b off hx vs hv hg.o (Nat.le_of_ble_eq_true hfit) hi (zb9 h1) _ ((zcM _ _ _ (Nat.le_of_ble_eq_true hfit)).trans (by rw [hnew])) h
end
open Go Go.RowKit

theorem zeq {g n cap b:Nat} (h:b < g):(Value.slice (some ⟨g,0,none⟩) n cap).ownBlock≠some b:=fun e=>by
 have q:g=b:=by simpa [Value.ownBlock] using e
 omega

theorem zgD {w:World} {base e size n cap g:Nat} {xs:List Value} (h:w.ownsRow base e size (.slice (some ⟨g,0,none⟩) n cap) n xs):∃ cur:Array Value,w.heap[g]?=some (.cells cur e (0,0))/\base<=g/\cur.size=cap * size/\cur.toList.take (n * size)=xs/\n<=cap/\cap<=maxLen:=by
 rcases h.2 with ⟨e1,_⟩ | ⟨g',cap',cur,e1,hb,hg,hn,hm,hs,ht⟩
 ·cases e1
 ·simp only [Value.slice.injEq,Option.some.injEq,Addr.mk.injEq,and_true,true_and] at e1
  obtain ⟨rfl,rfl⟩:=e1
  exact ⟨cur,hg,hb,hs,ht,hn,hm⟩

theorem ze8 {w w':World} {base e size n cap g off:Nat} {xs vs:List Value} {cur:Array Value} (hb:base<=g) (hs:cur.size=cap * size) (ht:cur.toList.take (n * size)=xs) (hn:n<=cap) (hm:cap<=maxLen)
  (hw:Wrote w w' g (zhO cur off vs) e) (hf:off+vs.length<=n * size):w'.ownsRow base e size (.slice (some ⟨g,0,none⟩) n cap) n (xs.take off++vs++xs.drop (off+vs.length)):=by
 have hns:n * size<=cap * size:=Nat.mul_le_mul_right _ hn
 have hlen:xs.length=n * size:=by rw [<- ht,List.length_take,Array.length_toList,hs]; exact Nat.min_eq_left hns
 have hsp:=zcM vs cur off (by omega)
 refine ⟨by simp; omega,.inr ⟨g,cap,_,rfl,hb,hw.block,hn,hm,?_,?_⟩⟩
 ·rw [hsp]; simp; omega
 ·rw [hsp]
  show (cur.toList.take off++vs++cur.toList.drop (off+vs.length)).take (n * size)=_
  subst ht
  rw [List.append_assoc,List.append_assoc,List.take_append,List.take_append,List.take_take,List.take_take,List.drop_take]
  have h1:(cur.toList.take off).length=off:=by rw [List.length_take,Array.length_toList]; omega
  rw [h1,Nat.min_eq_right (by omega:off<=n * size),Nat.min_eq_left (by omega:off<=n * size),List.take_of_length_le (l:=vs) (by omega),show n * size - off - vs.length=n * size - (off+vs.length) by omega]

theorem zh4 {X:Type}:∀ (l:List X) (k:Nat) (c:X),k < l.length->l.set k c=l.take k++c::l.drop (k+1)
 | [],k,c,h=>by simp at h
 | x::l,0,c,_=>rfl
 | x::l,k+1,c,h=>by
  simp only [List.set_cons_succ,List.take_succ_cons,List.drop_succ_cons,List.cons_append]
  rw [zh4 l k c (by simpa using h)]
theorem zjV {size:Nat} (hs:0 < size) {css:List (List Value)} (h:∀ c ∈ css,c.length=size) {k:Nat} (hk:k < css.length) {c:List Value} (hc:c.length=size):(css.set k c).flatten=css.flatten.take (k * size)++c++css.flatten.drop (k * size+c.length):=by
 rw [zh4 css k c hk,List.flatten_append,List.flatten_cons,zeD hs h,zeH hs h,List.append_assoc,hc,show (k+1) * size=k * size+size by rw [Nat.add_mul]; omega]

theorem Rd.setE {A:Nat->Prop} {X:Type} {R:El X} {size:Nat} {css:List (List Value)} {xs:List X} {c:List Value} {x:X} {w:World} (h1:Rd A (fun w=>zcR size R w css xs) w) (h2:Rd A (fun w=>R w c x) w) (hc:c.length=size) (k:Nat):Rd A (fun w=>zcR size R w (css.set k c) (xs.set k x)) w :=
 (h1.and h2).imp fun _ h=>h.1.set k hc h.2

theorem ziL {A:Nat->Prop} {X:Type} {R:El X} {size:Nat} {css:List (List Value)} {xs:List X} {w:World} (h:Rd A (fun w=>zcR size R w css xs) w) {k:Nat} {c:List Value} {x:X} (hc:css[k]?=some c) (hx:xs[k]?=some x):Rd A (fun w=>R w c x) w :=
 h.imp fun _ h=>(h.2 k c x hc hx).2
theorem ziC {X:Type} {R:El X} {size:Nat} {css:List (List Value)} {xs:List X} {w:World} (h:zcR size R w css xs) {k:Nat} (hk:k < xs.length):∃ c x,css[k]?=some c/\xs[k]?=some x/\c.length=size:=by
 have h1:css[k]?=some (css[k]'(by rw [h.1]; exact hk)):=List.getElem?_eq_getElem _
 have h2:xs[k]?=some xs[k]:=List.getElem?_eq_getElem hk
 exact ⟨_,_,h1,h2,(h.2 k _ _ h1 h2).1⟩
theorem zfg {w:World} {size:Nat} {b off n cap:Nat} {css:List (List Value)} (hs:0 < size) (h:Row w size (.slice (some ⟨b,off,none⟩) n cap) n css.flatten) (hz:∀ c ∈ css,c.length=size) {k:Nat} {c:List Value} (hc:css[k]?=some c):w.rangeAt b (off+k * size) c:=fun j v hv=>by
 obtain ⟨_,ao,cap',e,_,_,_,h5⟩:=h
 simp only [Value.slice.injEq] at e
 obtain ⟨b',off',e',hcell⟩:=h5 _ _ (zcr hs hz hc hv)
 rw [e'] at e
 simp only [Option.some.injEq,Addr.mk.injEq,and_true] at e
 obtain ⟨⟨rfl,rfl⟩,_⟩:=e
 rw [Nat.add_assoc]
 exact hcell

section
variable {P:Program} {ops:Array Oper} {rest:List Oper} {o:Oper} {a:Act} {w:World} {Q:Exit->Act->World->Prop}
theorem zii {ρ:Operand->Value} (ty:TypeId) (x:Operand) (ho:o.op=.load ty x) (b off:Nat) (hx:ρ x=.pointer (some ⟨b,off,none⟩)) (vs:List Value) (hr:w.rangeAt b off vs) {fs:Array Field} (hu:P.underlying ty=some (.struct fs)) (hi:(P.info? ty).map (·.size)=some vs.length) :
  (execOp ρ o).run P w=.ok (.value (.agg vs.toArray)) w:=by
 unfold execOp
 simp only [ho,hx,Instr.loadAt,Instr.sureAddr,Sem.run_bind,Sem.run_pure,Result.andThen_ok,run_loadVar_mid w b off ty vs (.struct fs) hr hu rfl hi]
theorem zbC {w w':World} {b base e size n:Nat} {cells:Array Value} (h:Made w w' b (.cells cells e)) (hb:base<=b) (hs:cells.size=n * size) (hm:n<=maxLen):w'.ownsRow base e size (.slice (some ⟨b,0,none⟩) n n) n cells.toList :=
 ⟨by simpa using hs,.inr ⟨b,n,cells,rfl,hb,h.block,Nat.le_refl _,hm,hs,by rw [List.take_of_length_le (by simp [hs])]⟩⟩

theorem zcQ (hgd:o.guard=none) (s x:Operand) (t:TypeId) (ho:o.op=.call { callee:=.builtin .append,args:=#[s,x],argTypes:=#[t,t] })
  (base:Nat) (e:TypeId) (i:TypeInfo) (z:Value) (size bytes:Nat) (ht:P.underlying t=some (.slice e)) (hi:P.info? e=some i) (hz:i.zero=some z)
  (hsize:i.size=size) (hby:i.bytes=bytes) (hzs:z.cells.size=size) (hsz:0 < size)
  (v:Value) (n:Nat) (xs:List Value) (hs:a.eval s=v) (hown:zb5 base e size n xs v w) (u:Value) (hx:a.eval x=u) (m:Nat) (news:List Value) (hu:Row w size u m news) (h1:∀ u ∈ news,u.oneCell'=true)
  (hbytes:(n+m) * bytes<=140737488355328) (hpos:0 < bytes) (hbase:base<=w.heap.size)
  (h:∀ v' w',w'.ownsRow base e size v' (n+m) (xs++news)->Ext w w'->wpList P ops Q rest (a.put o.dst v') w'):wpList P ops Q (o::rest) a w:=by
 refine wpList_plain hgd fun K hK=>?_
 obtain ⟨v',w',hrun,h2,h3⟩:=zbv (P:=P) w base t o.type e i z size bytes ht hi hz hsize hby hzs hsz v n xs hown u m news hu h1 hbytes hpos hbase
 unfold Oper.wp
 simp [execOp,ho,resolve,invoke,builtin,hs,hx,hrun,Result.andThen]
 exact hK _ _ (h v' w' h2 h3)

end
open Go Go.RowKit

section
variable {P:Program} {md:Region.Mode} {ops:Array Oper} {Q:Exit->Act->World->Prop} {S:World->Prop} {fuel:Nat} {listed:Array Bool} {a:Act} {w:World} {o:Oper}

theorem zag (h:∀ K:Act->Prop,(∀ a',wpAnyH P md ops Q S fuel listed a' w->K a')->K a):wpAnyH P md ops Q S fuel listed a w:=h _ (fun _ h=>h)

theorem zbR (i:Nat) (hi:ops[i]?=some o) (hs:Region.noSelect ops=true) (hf:Region.free md ops listed i=true) (hr:(Region.ready md ops listed).contains i=true)
  (hQ:∀ v c a w,Q (.panic c) (a.put o.dst v) w->Q (.panic c) a w) (v:Value) (hw:Region.wanted o (yielded ops a.tmps)=true) (hv:∀ w,S w->(execOp a.eval o).run P w=.ok (.value v) w) (hS:S w)
  (h:wpAnyH P md ops Q S fuel (listed.setIfInBounds i true) (a.put o.dst v) w):wpAnyH P md ops Q S (fuel+1) listed a w :=
 wpAnyH_take hi hs hf hr (hQ v) (.inl ⟨hw,hv⟩) hS h
theorem zaE (i:Nat) (hi:ops[i]?=some o) (hs:Region.noSelect ops=true) (hf:Region.free md ops listed i=true) (hr:(Region.ready md ops listed).contains i=true)
  (hQ:∀ v c a w,Q (.panic c) (a.put o.dst v) w->Q (.panic c) a w) (hw:Region.wanted o (yielded ops a.tmps)=true) (hS:S w)
  (h:∀ K:Act->Prop,(∀ a',wpAnyH P md ops Q S fuel (listed.setIfInBounds i true) a' w->K a')->∃ c,(∀ w,(execOp a.eval o).run P w=.ok (.value c) w)/\K (a.put o.dst c)):wpAnyH P md ops Q S (fuel+1) listed a w:=by
 obtain ⟨c,hc,hk⟩:=h _ (fun _ h=>h)
 exact wpAnyH_take hi hs hf hr (hQ c) (.inl ⟨hw,fun w _=>hc w⟩) hS hk

theorem zdQ {K:Act->World->Prop} {i:Nat} (hi:ops[i]?=some o) (hw:Region.wanted o (yielded ops a.tmps)=true) (h:o.wp P a w K Q):wpOp P ops Q i K a w:=by
 unfold wpOp
 simp only [hi,hw,if_true]
 exact .inl h
theorem zct (i:Nat) (hr:Region.ready md ops listed=[i]) (h:wpOp P ops Q i (fun a' w'=>S w'/\wpAnyH P md ops Q S fuel (listed.setIfInBounds i true) a' w') a w):wpAnyH P md ops Q S (fuel+1) listed a w :=
 wpAnyH_all hr (by simp) (fun j hj=>by
  simp only [List.mem_singleton] at hj
  subst hj
  exact h)
theorem zcd (i:Nat) (hr:Region.ready md ops listed=[i]) (hi:ops[i]?=some o) (hw:Region.wanted o (yielded ops a.tmps)=true)
  (ty:TypeId) (x y:Operand) (ho:o.op=.store ty x y) (b off:Nat) (hx:a.eval x=.pointer (some ⟨b,off,none⟩)) (vs:List Value) (hv:(a.eval y).cells=vs.toArray)
  {cs:Array Value} {t:TypeId} (hg:w.heap[b]?=some (.cells cs t (0,0))) (hfit:off+vs.length<=cs.size) (hsz:(P.info? ty).map (·.size)=some vs.length) (h1:∀ u ∈ vs,u.oneCell'=true)
  (new:Array Value) (hnew:zhO cs off vs=new) (h:∀ w',Hid (Wrote w w' b new t)->S w'/\wpAnyH P md ops Q S fuel (listed.setIfInBounds i true) (a.put o.dst undef) w'):wpAnyH P md ops Q S (fuel+1) listed a w:=by
 refine zct i hr (zdQ hi hw ?_)
 unfold Oper.wp execOp
 simp only [ho,hx,Sem.run_bind,Sem.run_pure,Result.andThen_ok,zhe ty b off (a.eval y) vs hv hg hfit hsz h1]
 have hw:Hid (Wrote w (zey w b off vs) b new t):=by
  rw [<- hnew]
  exact znR hg vs
 exact h _ hw
theorem zaS (i:Nat) (hi:ops[i]?=some o) (hs:Region.noSelect ops=true) (hf:Region.free md ops listed i=true) (hr:(Region.ready md ops listed).contains i=true)
  (hQ:∀ v c a w,Q (.panic c) (a.put o.dst v) w->Q (.panic c) a w) (hw:Region.wanted o (yielded ops a.tmps)=true) (ty:TypeId) (x:Operand) (ho:o.op=.load ty x) (b:Nat) (hx:a.eval x=.pointer (some ⟨b,0,none⟩)) {cs:List Value} {t:TypeId}
  (hg:∀ w,S w->w.heap[b]?=some (.cells cs.toArray t (0,0))) {fs:Array Field} (hu:P.underlying ty=some (.struct fs)) (hz:(P.info? ty).map (·.size)=some cs.length) (hS:Hid (S w))
  (h:wpAnyH P md ops Q S fuel (listed.setIfInBounds i true) (a.put o.dst (.agg cs.toArray)) w):wpAnyH P md ops Q S (fuel+1) listed a w :=
 zbR i hi hs hf hr hQ _ hw (fun w hw=>zbG ty x ho b 0 hx (hg w hw) cs (by simp) hu hz) hS.o h
theorem zaV (i:Nat) (hr:Region.ready md ops listed=[i]) (hi:ops[i]?=some o) (hw:Region.wanted o (yielded ops a.tmps)=true)
  (ty:TypeId) (x y:Operand) (ho:o.op=.store ty x y) (b:Nat) (hx:a.eval x=.pointer (some ⟨b,0,none⟩)) (vs:List Value) (hv:(a.eval y).cells=vs.toArray)
  {cs:Array Value} {t:TypeId} (hg:Hid (w.heap[b]?=some (.cells cs t (0,0)))) (hfit:vs.length=cs.size) (hsz:(P.info? ty).map (·.size)=some vs.length) (h1:vs.all (fun u=>u.oneCell')=true)
  (h:∀ w',Hid (Wrote w w' b vs.toArray t)->S w'/\wpAnyH P md ops Q S fuel (listed.setIfInBounds i true) (a.put o.dst undef) w'):wpAnyH P md ops Q S (fuel+1) listed a w :=
 zcd i hr hi hw ty x y ho b 0 hx vs hv hg.o (by omega) hsz (zb9 h1) _ (zhA cs vs hfit) h
theorem zaT (i:Nat) (hr:Region.ready md ops listed=[i]) (hi:ops[i]?=some o) (hw:Region.wanted o (yielded ops a.tmps)=true) (v:Value) (hv:(execOp a.eval o).run P w=.ok (.value v) w)
  (hS:S w) (h:wpAnyH P md ops Q S fuel (listed.setIfInBounds i true) (a.put o.dst v) w):wpAnyH P md ops Q S (fuel+1) listed a w:=by
 refine zct i hr (zdQ hi hw ?_)
 unfold Oper.wp
 rw [hv]
 exact ⟨hS,h⟩
theorem zgC (i:Nat) (hr:Region.ready md ops listed=[i]) (hi:ops[i]?=some o) (hw:Region.wanted o (yielded ops a.tmps)=true) (f:FuncId) (args:Array Value) (hv:(execOp a.eval o).run P w=.ok (.enter f args) w)
  (h:Calls P f args w fun e w'=>∃ v,e=.returned v/\S w'/\wpAnyH P md ops Q S fuel (listed.setIfInBounds i true) (a.put o.dst v) w'):wpAnyH P md ops Q S (fuel+1) listed a w:=by
 refine zct i hr (zdQ hi hw ?_)
 unfold Oper.wp
 rw [hv]
 refine Calls.mono h fun e w' ⟨v,e1,h1,h2⟩=>?_
 subst e1
 exact ⟨h1,h2⟩
theorem zgY {K:Act->World->Prop} {i:Nat} (hi:ops[i]?=some o) (hw:Region.wanted o (yielded ops a.tmps)=true) (t:TypeId) (cells:Array Value) (hrun:(execOp a.eval o).run P w=.ok (.value (.pointer (some ⟨w.heap.size,0,none⟩))) (w.alloc (.cells cells t)))
  (h:∀ b w',Hid (Made w w' b (.cells cells t))->K (a.put o.dst (.pointer (some ⟨b,0,none⟩))) w'):wpOp P ops Q i K a w:=by
 refine zdQ hi hw ?_
 unfold Oper.wp
 rw [hrun]
 exact h _ _ (zhE w _)
theorem zlC {K:Act->World->Prop} {i:Nat} (hi:ops[i]?=some o) (hw:Region.wanted o (yielded ops a.tmps)=true) (f:FuncId) (args:Array Value) (hv:(execOp a.eval o).run P w=.ok (.enter f args) w)
  (h:Calls P f args w fun e w'=>∃ v,e=.returned v/\K (a.put o.dst v) w'):wpOp P ops Q i K a w:=by
 refine zdQ hi hw ?_
 unfold Oper.wp
 rw [hv]
 refine Calls.mono h fun e w' ⟨v,e1,h1⟩=>?_
 subst e1
 exact h1
theorem zgV (i j:Nat) (hr:Region.ready md ops listed=[i,j]) (h1:wpOp P ops Q i (fun a' w'=>S w'/\wpAnyH P md ops Q S fuel (listed.setIfInBounds i true) a' w') a w)
  (h2:wpOp P ops Q j (fun a' w'=>S w'/\wpAnyH P md ops Q S fuel (listed.setIfInBounds j true) a' w') a w):wpAnyH P md ops Q S (fuel+1) listed a w :=
 wpAnyH_all hr (by simp) (fun k hk=>by
  simp only [List.mem_cons,List.not_mem_nil,or_false] at hk
  rcases hk with rfl | rfl
  ·exact h1
  ·exact h2)
theorem zbF {id:Nat} (hm:P.follows .mixedOrders=true) (h:∀ w',Ext w w'->w'.heap=w.heap->wpAnyH P .any ops Q S ops.size (Array.replicate ops.size false) a w'):(Code.region id ops true).wp P Q a w :=
 wp_region_held hm (h _ ((Ext.refl w).drew) rfl)
end
open Go

def ze5:Cl:=⟨0,0,0,0⟩

open Go Go.RowKit

def zbs (l:List (List Cl)) (i t:Nat):Rq:=⟨i,t,(l.getD i []).getD t ze5⟩
def za6 (p:List Rq) (i:Nat):List Rq:=p.filter fun r=>decide (r.client=(i:Int))
def zcu (p:List Rq):List (Int×Int):=(allCl (p.map Rq.call)).1
def zbX (p:List Rq) (i:Nat):List Rp:=((p.zip (allCl (p.map Rq.call)).2).filter fun x=>decide (x.1.client=(i:Int))).map fun x=>⟨x.2.1,x.2.2⟩

theorem zfh (cs:List Cl):(allCl cs).2.length=cs.length:=by
 have key:∀ (cs:List Cl) (s:List (Int×Int)×List (Int×Int)),(cs.foldl zdn s).2.length=s.2.length+cs.length:=by
  intro cs
  induction cs with
  | nil=>intro s; rfl
  | cons c cs ih=>intro s; rw [List.foldl_cons,ih]; simp [zdn]; omega
 have:=key cs ([],[])
 simpa [allCl] using this
theorem zkH (p:List Rq) (r:Rq):zcu (p++[r])=(za5 (zcu p) r.call).1:=by
 unfold zcu
 rw [List.map_append,List.map_cons,List.map_nil,zfK]
 rfl
theorem zgt (p:List Rq) (r:Rq) (i:Nat):za6 (p++[r]) i=if r.client=(i:Int) then za6 p i++[r] else za6 p i:=by
 unfold za6
 rw [List.filter_append]
 by_cases h:r.client=(i:Int)
 ·rw [if_pos h]; simp [h]
 ·rw [if_neg h]; simp [h]
theorem zgx (p:List Rq) (r:Rq) (i:Nat):zbX (p++[r]) i=if r.client=(i:Int) then zbX p i++[(za5 (zcu p) r.call).2] else zbX p i:=by
 unfold zbX zcu
 rw [List.map_append,List.map_cons,List.map_nil,zfK]
 simp only [zdn]
 rw [List.zip_append (by rw [zfh,List.length_map])]
 simp only [List.zip_cons_cons,List.zip_nil_right,List.filter_append]
 by_cases h:r.client=(i:Int)
 ·rw [if_pos h]; simp [h]
 ·rw [if_neg h]; simp [h]
theorem ze4 (p:List Rq) (i:Nat):(zbX p i).length=(za6 p i).length:=by
 have key:∀ (q:List Rq) (y:List (Int×Int)),q.length=y.length->(((q.zip y).filter fun x=>decide (x.1.client=(i:Int))).map fun x=>(⟨x.2.1,x.2.2⟩:Rp)).length=(q.filter fun r=>decide (r.client=(i:Int))).length:=by
  intro q
  induction q with
  | nil=>intro y _; simp
  | cons r q ih =>
   intro y hy
   cases y with
   | nil=>simp at hy
   | cons a y =>
    have:=ih y (by simpa using hy)
    by_cases h:r.client=(i:Int)
    ·simp [h] at this ⊢; exact this
    ·simp [h] at this ⊢; exact this
 exact key p _ (by rw [zfh,List.length_map])

theorem zhh {X:Type} {xs:List X} {t:Nat} {d:X} (h:t < xs.length):xs.getD t d ∈ xs:=by
 rw [List.getD_eq_getElem?_getD,List.getElem?_eq_getElem h]
 exact List.getElem_mem h
theorem zh2 {l:List (List Cl)} (hl:zbm l) {i t:Nat} (hi:i < l.length) (ht:t < (l.getD i []).length):zbH (zbs l i t)=0:=by
 have hg:l.getD i []=l[i]:=by simp [hi]
 have h8:=hl.2 (l.getD i []) (by rw [hg]; exact List.getElem_mem hi)
 have h3:=hl.1
 have hw:wrongCl ((l.getD i []).getD t ze5)=0:=h8.2 _ (zhh ht)
 unfold zbH zbs
 rw [if_neg (by simp only []; omega)]
 exact hw
theorem zeB {l:List (List Cl)} (hl:zbm l) {i t:Nat} (hi:i < l.length) (ht:t < (l.getD i []).length):wrongCl (zbs l i t).call=0:=(zee (zh2 hl hi ht)).2

def zoj (r:Rp):Prop:=0<=r.err/\r.err<=12/\-1073741824<=r.n/\r.n<=1073741824/\(0 < r.err->r.n=0)
theorem znH {l:List (Int×Int)} {c:Cl} (h:Okn l) (hc:wrongCl c=0):zoj (za5 l c).2:=by
 obtain ⟨_,h2,h3,h4⟩:=ziu h hc
 have he:(za5 l c).2.err=0∨(za5 l c).2.err=3∨(za5 l c).2.err=6∨(za5 l c).2.err=9:=by
  unfold za5
  repeat' split
  all_goals simp
 refine ⟨by omega,by omega,h3,h4,fun h0=>?_⟩
 rcases h2 with h2 | h2
 ·omega
 ·exact h2.1

def zg9 (l:List (List Cl)) (p:List Rq):Prop:=∀ r ∈ p,∃ i t:Nat,i < l.length/\t < (l.getD i []).length/\r=zbs l i t
theorem zhj {l:List (List Cl)} (hl:zbm l) {p:List Rq} (hp:zg9 l p):Okn (zcu p):=by
 have:=(zkL (cs:=p.map Rq.call) (fun c hc=>by
  obtain ⟨r,hr,rfl⟩:=List.mem_map.1 hc
  obtain ⟨i,t,hi,ht,rfl⟩:=hp r hr
  exact zeB hl hi ht) p.length).1
 rwa [List.take_of_length_le (by simp)] at this
theorem zl0 {l:List (List Cl)} (hl:zbm l) {p:List Rq} (hp:zg9 l p) (i:Nat):∀ r ∈ zbX p i,zoj r:=by
 have key:∀ n,n<=p.length->∀ r ∈ zbX (p.take n) i,zoj r:=by
  intro n
  induction n with
  | zero=>intro _ r hr; simp [zbX] at hr
  | succ n ih =>
   intro hn r hr
   have hlt:n < p.length:=by omega
   rw [List.take_add_one,List.getElem?_eq_getElem hlt] at hr
   simp only [Option.toList_some] at hr
   rw [zgx] at hr
   split at hr
   ·rw [List.mem_append] at hr
    rcases hr with hr | hr
    ·exact ih (by omega) r hr
    ·simp only [List.mem_singleton] at hr
     subst hr
     obtain ⟨j,t,hj,ht,he⟩:=hp p[n] (List.getElem_mem hlt)
     refine znH (zhj hl (p:=p.take n) fun q hq=>hp q (List.mem_of_mem_take hq)) ?_
     rw [he]
     exact zeB hl hj ht
   ·exact ih (by omega) r hr
 have:=key p.length (Nat.le_refl _)
 rwa [List.take_length] at this
theorem zli {l:List (List Cl)} (hl:zbm l) {p:List Rq} (hp:zg9 l p) {i t:Nat} (hi:i < l.length) (ht:t < 8) (hd:t < (zbX p i).length):zbE ⟨i,t,(zbX p i).getD t ⟨0,0⟩⟩=0:=by
 have hm:(zbX p i).getD t ⟨0,0⟩ ∈ zbX p i:=by
  rw [List.getD_eq_getElem?_getD,List.getElem?_eq_getElem hd]; exact List.getElem_mem hd
 obtain ⟨h1,h2,h3,h4,h5⟩:=zl0 hl hp i _ hm
 have:=hl.1
 unfold zbE
 rw [if_neg]
 simp only []
 omega
end Go.Mk

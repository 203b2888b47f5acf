/- Texts of the proof, merged: Big2 Mem10 Held MathZ Math10 Math11 Math12. -/
import Derived.Test.YtdmipnnfoolelafGreatKTA
import Derived.Test.YtdmipnnfoolelafGreatKTD
import Derived.OrdersHeld
import Derived.Test.YtdmipnnfoolelafGreatKTB
import Derived.Test.YtdmipnnfoolelafGreatKTC

namespace Go.Mk
open Go Go.RowKit

theorem zbx {w w':World} {k:Nat} {x:Obj} (h:Hid (w.heap[k]?=some x)) (e:Ext w w'):Hid (w'.heap[k]?=some x):=zbW h.o e
theorem zrx {w w':World} {A:Nat->Prop} {φ:World->Prop} (h:Hid (Rd A φ w)) (e:Ext w w'):Hid (Rd A φ w'):=h.o.ext e

section
variable {P:Program} {ops:Array Oper} {rest:List Oper} {o:Oper} {a:Act} {w:World} {Q:Exit->Act->World->Prop}
def zsi (L:List Nat):Op->Bool
 | .load ty _=>L.contains ty
 | .store ..=>true
 | .box ..=>true
 | .alloc ..=>true
 | .build ..=>true
 | .buildSlice ..=>true
 | _=>false
def zts:Op->Bool
 | .slice ..=>true
 | _=>false
theorem zst {L:List Nat} (_:zsi L o.op=true) (h:Hid (wpList P ops Q (o::rest) a w)):wpList P ops Q (o::rest) a w:=h
theorem zT (h:Hid (wpList P ops Q (o::rest) a w)) (_:zsi [44,41,31,55] o.op=true:=by with_unfolding_all exact rfl):wpList P ops Q (o::rest) a w:=h
theorem zsc (_:zts o.op=true) (h:Hid (wpList P ops Q (o::rest) a w)):wpList P ops Q (o::rest) a w:=h
theorem zf0 (hg:o.guard=none) (n:Nat) (G:Option Addr->Nat->Prop) (h1:∃ na nc,G na nc/\(execOp a.eval o).run P w=.ok (.value (.slice na n nc)) w) (h:∀ na nc,G na nc->wpList P ops Q rest (a.put o.dst (.slice na n nc)) w):wpList P ops Q (o::rest) a w:=by
 obtain ⟨na,nc,hG,hrun⟩:=h1
 refine wpList_plain hg fun K hK=>?_
 unfold Oper.wp
 rw [hrun,Oper.upon_value]
 exact hK _ _ (h na nc hG)
theorem zcv {v:Value} {cs:List Value} (h:Hid (v=.agg cs.toArray)):v.cells=cs.toArray:=by rw [h.o]; rfl
theorem zah (hgd:o.guard=none) (ty:TypeId) (x:Operand) (ho:o.op=.load ty x) (b:Nat) (hx:a.eval x=.pointer (some ⟨b,0,none⟩)) {cs:List Value} {t:TypeId} (hg:Hid (w.heap[b]?=some (.cells cs.toArray t (0,0))))
  {fs:Array Field} (hu:P.underlying ty=some (.struct fs)) (hi:(P.info? ty).map (·.size)=some cs.length)
  (h:∀ v,Hid (v=.agg cs.toArray)->wpList P ops Q rest (a.put o.dst v) w):Hid (wpList P ops Q (o::rest) a w):=by
 unfold Hid
 exact
  zgs hgd ty x ho b 0 hx hg.o cs (by simp) hu hi h
theorem zac (hgd:o.guard=none) (ty:TypeId) (x y:Operand) (ho:o.op=.store ty x y) (b:Nat) (hx:a.eval x=.pointer (some ⟨b,0,none⟩)) (vs:List Value) (hv:(a.eval y).cells=vs.toArray)
  {cs:Array Value} {t:TypeId} (hg:Hid (w.heap[b]?=some (.cells cs t (0,0)))) (hfit:vs.length=cs.size) (hi:(P.info? ty).map (·.size)=some vs.length) (h1:vs.all (fun u=>u.oneCell')=true)
  (h:∀ w',Hid (Wrote w w' b vs.toArray t)->wpList P ops Q rest (a.put o.dst undef) w'):Hid (wpList P ops Q (o::rest) a w):=by
 unfold Hid
 exact
  zcG hgd ty x y ho b 0 hx vs hv hg.o (by omega) hi (zbC h1) _ (zj8 cs vs hfit) h
theorem zcp (hgd:o.guard=none) (ty:TypeId) (x:Operand) (ho:o.op=.load ty x) (b off:Nat) (hx:a.eval x=.pointer (some ⟨b,off,none⟩)) {cs:Array Value} {t:TypeId} (hg:Hid (w.heap[b]?=some (.cells cs t (0,0))))
  (vs:List Value) (hsub:(cs.toList.drop off).take vs.length=vs) {fs:Array Field} (hu:P.underlying ty=some (.struct fs)) (hi:(P.info? ty).map (·.size)=some vs.length)
  (h:∀ v,Hid (v=.agg vs.toArray)->wpList P ops Q rest (a.put o.dst v) w):Hid (wpList P ops Q (o::rest) a w):=by
 unfold Hid
 exact
  zgs hgd ty x ho b off hx hg.o vs hsub hu hi h
theorem zal (hgd:o.guard=none) (ty:TypeId) (x y:Operand) (ho:o.op=.store ty x y) (b off:Nat) (hx:a.eval x=.pointer (some ⟨b,off,none⟩)) (vs:List Value) (hv:(a.eval y).cells=vs.toArray)
  {cs:Array Value} {t:TypeId} (hg:Hid (w.heap[b]?=some (.cells cs t (0,0)))) (hfit:(off+vs.length).ble cs.size=true) (hi:(P.info? ty).map (·.size)=some vs.length) (h1:vs.all (fun u=>u.oneCell')=true)
  (new:List Value) (hnew:cs.toList.take off++vs++cs.toList.drop (off+vs.length)=new) (h:∀ w',Hid (Wrote w w' b new.toArray t)->wpList P ops Q rest (a.put o.dst undef) w'):Hid (wpList P ops Q (o::rest) a w):=by
 unfold Hid
 exact
  zcG hgd ty x y ho b off hx vs hv hg.o (Nat.le_of_ble_eq_true hfit) hi (zbC h1) _ ((zcm _ _ _ (Nat.le_of_ble_eq_true hfit)).trans (by rw [hnew])) h
end
open Go Go.RowKit

theorem zem {g n cap b:Nat} (h:b < g):(Value.slice (some ⟨g,0,none⟩) n cap).ownBlock≠some b:=fun e=>by
 have q:g=b:=by simpa [Value.ownBlock] using e
 omega

theorem zfP {w:World} {base e size n cap g:Nat} {xs:List Value} (h:w.ownsRow base e size (.slice (some ⟨g,0,none⟩) n cap) n xs):∃ cur:Array Value,w.heap[g]?=some (.cells cur e (0,0))/\base<=g/\cur.size=cap * size/\cur.toList.take (n * size)=xs/\n<=cap/\cap<=maxLen:=by
 rcases h.2 with ⟨e1,_⟩ | ⟨g',cap',cur,e1,hb,hg,hn,hm,hs,ht⟩
 ·cases e1
 ·simp only [Value.slice.injEq,Option.some.injEq,Addr.mk.injEq,and_true,true_and] at e1
  obtain ⟨rfl,rfl⟩:=e1
  exact ⟨cur,hg,hb,hs,ht,hn,hm⟩

theorem zeB {w w':World} {base e size n cap g off:Nat} {xs vs:List Value} {cur:Array Value} (hb:base<=g) (hs:cur.size=cap * size) (ht:cur.toList.take (n * size)=xs) (hn:n<=cap) (hm:cap<=maxLen)
  (hw:Wrote w w' g (zkA cur off vs) e) (hf:off+vs.length<=n * size):w'.ownsRow base e size (.slice (some ⟨g,0,none⟩) n cap) n (xs.take off++vs++xs.drop (off+vs.length)):=by
 have hns:n * size<=cap * size:=Nat.mul_le_mul_right _ hn
 have hlen:xs.length=n * size:=by rw [<- ht,List.length_take,Array.length_toList,hs]; exact Nat.min_eq_left hns
 have hsp:=zcm vs cur off (by omega)
 refine ⟨by simp; omega,.inr ⟨g,cap,_,rfl,hb,hw.block,hn,hm,?_,?_⟩⟩
 ·rw [hsp]; simp; omega
 ·rw [hsp]
  show (cur.toList.take off++vs++cur.toList.drop (off+vs.length)).take (n * size)=_
  subst ht
  rw [List.append_assoc,List.append_assoc,List.take_append,List.take_append,List.take_take,List.take_take,List.drop_take]
  have h1:(cur.toList.take off).length=off:=by rw [List.length_take,Array.length_toList]; omega
  rw [h1,Nat.min_eq_right (by omega:off<=n * size),Nat.min_eq_left (by omega:off<=n * size),List.take_of_length_le (l:=vs) (by omega),show n * size - off - vs.length=n * size - (off+vs.length) by omega]

theorem zk0 {X:Type}:∀ (l:List X) (k:Nat) (c:X),k < l.length->l.set k c=l.take k++c::l.drop (k+1)
 | [],k,c,h=>by simp at h
 | x::l,0,c,_=>rfl
 | x::l,k+1,c,h=>by
  simp only [List.set_cons_succ,List.take_succ_cons,List.drop_succ_cons,List.cons_append]
  rw [zk0 l k c (by simpa using h)]
theorem zfi {size:Nat} (hs:0 < size) {css:List (List Value)} (h:∀ c ∈ css,c.length=size) {k:Nat} (hk:k < css.length) {c:List Value} (hc:c.length=size):(css.set k c).flatten=css.flatten.take (k * size)++c++css.flatten.drop (k * size+c.length):=by
 rw [zk0 css k c hk,List.flatten_append,List.flatten_cons,zgn hs h,zgf hs h,List.append_assoc,hc,show (k+1) * size=k * size+size by rw [Nat.add_mul]; omega]

theorem Rd.setE {A:Nat->Prop} {X:Type} {R:El X} {size:Nat} {css:List (List Value)} {xs:List X} {c:List Value} {x:X} {w:World} (h1:Rd A (fun w=>zdq size R w css xs) w) (h2:Rd A (fun w=>R w c x) w) (hc:c.length=size) (k:Nat):Rd A (fun w=>zdq size R w (css.set k c) (xs.set k x)) w :=
 (h1.and h2).imp fun _ h=>h.1.set k hc h.2

theorem zeN {A:Nat->Prop} {X:Type} {R:El X} {size:Nat} {css:List (List Value)} {xs:List X} {w:World} (h:Rd A (fun w=>zdq size R w css xs) w) {k:Nat} {c:List Value} {x:X} (hc:css[k]?=some c) (hx:xs[k]?=some x):Rd A (fun w=>R w c x) w :=
 h.imp fun _ h=>(h.2 k c x hc hx).2
theorem zfq {X:Type} {R:El X} {size:Nat} {css:List (List Value)} {xs:List X} {w:World} (h:zdq size R w css xs) {k:Nat} (hk:k < xs.length):∃ c x,css[k]?=some c/\xs[k]?=some x/\c.length=size:=by
 have h1:css[k]?=some (css[k]'(by rw [h.1]; exact hk)):=List.getElem?_eq_getElem _
 have h2:xs[k]?=some xs[k]:=List.getElem?_eq_getElem hk
 exact ⟨_,_,h1,h2,(h.2 k _ _ h1 h2).1⟩
theorem zd3 {w:World} {size:Nat} {b off n cap:Nat} {css:List (List Value)} (hs:0 < size) (h:Row w size (.slice (some ⟨b,off,none⟩) n cap) n css.flatten) (hz:∀ c ∈ css,c.length=size) {k:Nat} {c:List Value} (hc:css[k]?=some c):w.rangeAt b (off+k * size) c:=fun j v hv=>by
 obtain ⟨_,ao,cap',e,_,_,_,h5⟩:=h
 simp only [Value.slice.injEq] at e
 obtain ⟨b',off',e',hcell⟩:=h5 _ _ (zc9 hs hz hc hv)
 rw [e'] at e
 simp only [Option.some.injEq,Addr.mk.injEq,and_true] at e
 obtain ⟨⟨rfl,rfl⟩,_⟩:=e
 rw [Nat.add_assoc]
 exact hcell

section
variable {P:Program} {ops:Array Oper} {rest:List Oper} {o:Oper} {a:Act} {w:World} {Q:Exit->Act->World->Prop}
theorem zfR {ρ:Operand->Value} (ty:TypeId) (x:Operand) (ho:o.op=.load ty x) (b off:Nat) (hx:ρ x=.pointer (some ⟨b,off,none⟩)) (vs:List Value) (hr:w.rangeAt b off vs) {fs:Array Field} (hu:P.underlying ty=some (.struct fs)) (hi:(P.info? ty).map (·.size)=some vs.length) :
  (execOp ρ o).run P w=.ok (.value (.agg vs.toArray)) w:=by
 unfold execOp
 simp only [ho,hx,Instr.loadAt,Instr.sureAddr,Sem.run_bind,Sem.run_pure,Result.andThen_ok,run_loadVar_mid w b off ty vs (.struct fs) hr hu rfl hi]
theorem zgq (hgd:o.guard=none) (ty:TypeId) (x:Operand) (ho:o.op=.load ty x) (b off:Nat) (hx:a.eval x=.pointer (some ⟨b,off,none⟩)) (vs:List Value) (hr:w.rangeAt b off vs) {fs:Array Field} (hu:P.underlying ty=some (.struct fs)) (hi:(P.info? ty).map (·.size)=some vs.length)
  (h:∀ v,Hid (v=.agg vs.toArray)->wpList P ops Q rest (a.put o.dst v) w):wpList P ops Q (o::rest) a w:=by
 refine wpList_plain hgd fun K hK=>?_
 unfold Oper.wp
 rw [zfR ty x ho b off hx vs hr hu hi,Oper.upon_value]
 exact hK _ _ (h _ rfl)
theorem zdi {w w':World} {b base e size n:Nat} {cells:Array Value} (h:Made w w' b (.cells cells e)) (hb:base<=b) (hs:cells.size=n * size) (hm:n<=maxLen):w'.ownsRow base e size (.slice (some ⟨b,0,none⟩) n n) n cells.toList :=
 ⟨by simpa using hs,.inr ⟨b,n,cells,rfl,hb,h.block,Nat.le_refl _,hm,hs,by rw [List.take_of_length_le (by simp [hs])]⟩⟩

theorem ze6 (hgd:o.guard=none) (s x:Operand) (t:TypeId) (ho:o.op=.call { callee:=.builtin .append,args:=#[s,x],argTypes:=#[t,t] })
  (base:Nat) (e:TypeId) (i:TypeInfo) (z:Value) (size bytes:Nat) (ht:P.underlying t=some (.slice e)) (hi:P.info? e=some i) (hz:i.zero=some z)
  (hsize:i.size=size) (hby:i.bytes=bytes) (hzs:z.cells.size=size) (hsz:0 < size)
  (v:Value) (n:Nat) (xs:List Value) (hs:a.eval s=v) (hown:zdr base e size n xs v w) (u:Value) (hx:a.eval x=u) (m:Nat) (news:List Value) (hu:Row w size u m news) (h1:∀ u ∈ news,u.oneCell'=true)
  (hbytes:(n+m) * bytes<=140737488355328) (hpos:0 < bytes) (hbase:base<=w.heap.size)
  (h:∀ v' w',w'.ownsRow base e size v' (n+m) (xs++news)->Ext w w'->wpList P ops Q rest (a.put o.dst v') w'):wpList P ops Q (o::rest) a w:=by
 refine wpList_plain hgd fun K hK=>?_
 obtain ⟨v',w',hrun,h2,h3⟩:=zcf (P:=P) w base t o.type e i z size bytes ht hi hz hsize hby hzs hsz v n xs hown u m news hu h1 hbytes hpos hbase
 unfold Oper.wp
 simp [execOp,ho,resolve,invoke,builtin,hs,hx,hrun,Result.andThen]
 exact hK _ _ (h v' w' h2 h3)

end
open Go Go.RowKit

section
variable {P:Program} {md:Region.Mode} {ops:Array Oper} {Q:Exit->Act->World->Prop} {S:World->Prop} {fuel:Nat} {listed:Array Bool} {a:Act} {w:World} {o:Oper}

theorem zaf (h:∀ K:Act->Prop,(∀ a',wpAnyH P md ops Q S fuel listed a' w->K a')->K a):wpAnyH P md ops Q S fuel listed a w:=h _ (fun _ h=>h)

theorem zbv (i:Nat) (hi:ops[i]?=some o) (hs:Region.noSelect ops=true) (hf:Region.free md ops listed i=true) (hr:(Region.ready md ops listed).contains i=true)
  (hQ:∀ v c a w,Q (.panic c) (a.put o.dst v) w->Q (.panic c) a w) (v:Value) (hw:Region.wanted o (yielded ops a.tmps)=true) (hv:∀ w,S w->(execOp a.eval o).run P w=.ok (.value v) w) (hS:S w)
  (h:wpAnyH P md ops Q S fuel (listed.setIfInBounds i true) (a.put o.dst v) w):wpAnyH P md ops Q S (fuel+1) listed a w :=
 wpAnyH_take hi hs hf hr (hQ v) (.inl ⟨hw,hv⟩) hS h
theorem zar (i:Nat) (hi:ops[i]?=some o) (hs:Region.noSelect ops=true) (hf:Region.free md ops listed i=true) (hr:(Region.ready md ops listed).contains i=true)
  (hQ:∀ v c a w,Q (.panic c) (a.put o.dst v) w->Q (.panic c) a w) (hw:Region.wanted o (yielded ops a.tmps)=true) (hS:S w)
  (h:∀ K:Act->Prop,(∀ a',wpAnyH P md ops Q S fuel (listed.setIfInBounds i true) a' w->K a')->∃ c,(∀ w,(execOp a.eval o).run P w=.ok (.value c) w)/\K (a.put o.dst c)):wpAnyH P md ops Q S (fuel+1) listed a w:=by
 obtain ⟨c,hc,hk⟩:=h _ (fun _ h=>h)
 exact wpAnyH_take hi hs hf hr (hQ c) (.inl ⟨hw,fun w _=>hc w⟩) hS hk

theorem zgy {K:Act->World->Prop} {i:Nat} (hi:ops[i]?=some o) (hw:Region.wanted o (yielded ops a.tmps)=true) (h:o.wp P a w K Q):wpOp P ops Q i K a w:=by
 unfold wpOp
 simp only [hi,hw,if_true]
 exact .inl h
theorem zdQ (i:Nat) (hr:Region.ready md ops listed=[i]) (h:wpOp P ops Q i (fun a' w'=>S w'/\wpAnyH P md ops Q S fuel (listed.setIfInBounds i true) a' w') a w):wpAnyH P md ops Q S (fuel+1) listed a w :=
 wpAnyH_all hr (by simp) (fun j hj=>by
  simp only [List.mem_singleton] at hj
  subst hj
  exact h)
theorem zbL (i:Nat) (hr:Region.ready md ops listed=[i]) (hi:ops[i]?=some o) (hw:Region.wanted o (yielded ops a.tmps)=true)
  (ty:TypeId) (x y:Operand) (ho:o.op=.store ty x y) (b off:Nat) (hx:a.eval x=.pointer (some ⟨b,off,none⟩)) (vs:List Value) (hv:(a.eval y).cells=vs.toArray)
  {cs:Array Value} {t:TypeId} (hg:w.heap[b]?=some (.cells cs t (0,0))) (hfit:off+vs.length<=cs.size) (hsz:(P.info? ty).map (·.size)=some vs.length) (h1:∀ u ∈ vs,u.oneCell'=true)
  (new:Array Value) (hnew:zkA cs off vs=new) (h:∀ w',Hid (Wrote w w' b new t)->S w'/\wpAnyH P md ops Q S fuel (listed.setIfInBounds i true) (a.put o.dst undef) w'):wpAnyH P md ops Q S (fuel+1) listed a w:=by
 refine zdQ i hr (zgy hi hw ?_)
 unfold Oper.wp execOp
 simp only [ho,hx,Sem.run_bind,Sem.run_pure,Result.andThen_ok,zjX ty b off (a.eval y) vs hv hg hfit hsz h1]
 have hw:Hid (Wrote w (zfL w b off vs) b new t):=by
  rw [<- hnew]
  exact wrote hg vs
 exact h _ hw
theorem zaM (i:Nat) (hi:ops[i]?=some o) (hs:Region.noSelect ops=true) (hf:Region.free md ops listed i=true) (hr:(Region.ready md ops listed).contains i=true)
  (hQ:∀ v c a w,Q (.panic c) (a.put o.dst v) w->Q (.panic c) a w) (hw:Region.wanted o (yielded ops a.tmps)=true) (ty:TypeId) (x:Operand) (ho:o.op=.load ty x) (b:Nat) (hx:a.eval x=.pointer (some ⟨b,0,none⟩)) {cs:List Value} {t:TypeId}
  (hg:∀ w,S w->w.heap[b]?=some (.cells cs.toArray t (0,0))) {fs:Array Field} (hu:P.underlying ty=some (.struct fs)) (hz:(P.info? ty).map (·.size)=some cs.length) (hS:Hid (S w))
  (h:wpAnyH P md ops Q S fuel (listed.setIfInBounds i true) (a.put o.dst (.agg cs.toArray)) w):wpAnyH P md ops Q S (fuel+1) listed a w :=
 zbv i hi hs hf hr hQ _ hw (fun w hw=>zbP ty x ho b 0 hx (hg w hw) cs (by simp) hu hz) hS.o h
theorem zaR (i:Nat) (hr:Region.ready md ops listed=[i]) (hi:ops[i]?=some o) (hw:Region.wanted o (yielded ops a.tmps)=true)
  (ty:TypeId) (x y:Operand) (ho:o.op=.store ty x y) (b:Nat) (hx:a.eval x=.pointer (some ⟨b,0,none⟩)) (vs:List Value) (hv:(a.eval y).cells=vs.toArray)
  {cs:Array Value} {t:TypeId} (hg:Hid (w.heap[b]?=some (.cells cs t (0,0)))) (hfit:vs.length=cs.size) (hsz:(P.info? ty).map (·.size)=some vs.length) (h1:vs.all (fun u=>u.oneCell')=true)
  (h:∀ w',Hid (Wrote w w' b vs.toArray t)->S w'/\wpAnyH P md ops Q S fuel (listed.setIfInBounds i true) (a.put o.dst undef) w'):wpAnyH P md ops Q S (fuel+1) listed a w :=
 zbL i hr hi hw ty x y ho b 0 hx vs hv hg.o (by omega) hsz (zbC h1) _ (zj8 cs vs hfit) h
theorem zaE (i:Nat) (hr:Region.ready md ops listed=[i]) (hi:ops[i]?=some o) (hw:Region.wanted o (yielded ops a.tmps)=true) (v:Value) (hv:(execOp a.eval o).run P w=.ok (.value v) w)
  (hS:S w) (h:wpAnyH P md ops Q S fuel (listed.setIfInBounds i true) (a.put o.dst v) w):wpAnyH P md ops Q S (fuel+1) listed a w:=by
 refine zdQ i hr (zgy hi hw ?_)
 unfold Oper.wp
 rw [hv]
 exact ⟨hS,h⟩
theorem zc5 (i:Nat) (hr:Region.ready md ops listed=[i]) (hi:ops[i]?=some o) (hw:Region.wanted o (yielded ops a.tmps)=true) (f:FuncId) (args:Array Value) (hv:(execOp a.eval o).run P w=.ok (.enter f args) w)
  (h:Calls P f args w fun e w'=>∃ v,e=.returned v/\S w'/\wpAnyH P md ops Q S fuel (listed.setIfInBounds i true) (a.put o.dst v) w'):wpAnyH P md ops Q S (fuel+1) listed a w:=by
 refine zdQ i hr (zgy hi hw ?_)
 unfold Oper.wp
 rw [hv]
 refine Calls.mono h fun e w' ⟨v,e1,h1,h2⟩=>?_
 subst e1
 exact ⟨h1,h2⟩
theorem zcV {K:Act->World->Prop} {i:Nat} (hi:ops[i]?=some o) (hw:Region.wanted o (yielded ops a.tmps)=true) (t:TypeId) (cells:Array Value) (hrun:(execOp a.eval o).run P w=.ok (.value (.pointer (some ⟨w.heap.size,0,none⟩))) (w.alloc (.cells cells t)))
  (h:∀ b w',Hid (Made w w' b (.cells cells t))->K (a.put o.dst (.pointer (some ⟨b,0,none⟩))) w'):wpOp P ops Q i K a w:=by
 refine zgy hi hw ?_
 unfold Oper.wp
 rw [hrun]
 exact h _ _ (zm6 w _)
theorem zdz {K:Act->World->Prop} {i:Nat} (hi:ops[i]?=some o) (hw:Region.wanted o (yielded ops a.tmps)=true) (f:FuncId) (args:Array Value) (hv:(execOp a.eval o).run P w=.ok (.enter f args) w)
  (h:Calls P f args w fun e w'=>∃ v,e=.returned v/\K (a.put o.dst v) w'):wpOp P ops Q i K a w:=by
 refine zgy hi hw ?_
 unfold Oper.wp
 rw [hv]
 refine Calls.mono h fun e w' ⟨v,e1,h1⟩=>?_
 subst e1
 exact h1
theorem zfI (i j:Nat) (hr:Region.ready md ops listed=[i,j]) (h1:wpOp P ops Q i (fun a' w'=>S w'/\wpAnyH P md ops Q S fuel (listed.setIfInBounds i true) a' w') a w)
  (h2:wpOp P ops Q j (fun a' w'=>S w'/\wpAnyH P md ops Q S fuel (listed.setIfInBounds j true) a' w') a w):wpAnyH P md ops Q S (fuel+1) listed a w :=
 wpAnyH_all hr (by simp) (fun k hk=>by
  simp only [List.mem_cons,List.not_mem_nil,or_false] at hk
  rcases hk with rfl | rfl
  ·exact h1
  ·exact h2)
theorem zbk {id:Nat} (hm:P.follows .mixedOrders=true) (h:∀ w',Ext w w'->w'.heap=w.heap->wpAnyH P .any ops Q S ops.size (Array.replicate ops.size false) a w'):(Code.region id ops true).wp P Q a w :=
 wp_region_held hm (h _ ((Ext.refl w).drew) rfl)
end
open Go

def zq0:Cl:=⟨0,0,0,0⟩

open Go Go.RowKit

def zbi (l:List (List Cl)) (i t:Nat):Rq:=⟨i,t,(l.getD i []).getD t zq0⟩
def zce (p:List Rq) (i:Nat):List Rq:=p.filter fun r=>decide (r.client=(i:Int))
def zd8 (p:List Rq):List (Int×Int):=(zef (p.map Rq.call)).1
def zcI (p:List Rq) (i:Nat):List Rp:=((p.zip (zef (p.map Rq.call)).2).filter fun x=>decide (x.1.client=(i:Int))).map fun x=>⟨x.2.1,x.2.2⟩

theorem zlB (cs:List Cl):(zef cs).2.length=cs.length:=by
 have key:∀ (cs:List Cl) (s:List (Int×Int)×List (Int×Int)),(cs.foldl zhI s).2.length=s.2.length+cs.length:=by
  intro cs
  induction cs with
  | nil=>intro s; rfl
  | cons c cs ih=>intro s; rw [List.foldl_cons,ih]; simp [zhI]; omega
 have:=key cs ([],[])
 simpa [zef] using this
theorem zn7 (p:List Rq) (r:Rq):zd8 (p++[r])=(zbw (zd8 p) r.call).1:=by
 unfold zd8
 rw [List.map_append,List.map_cons,List.map_nil,zhV]
 rfl
theorem zk4 (p:List Rq) (r:Rq) (i:Nat):zce (p++[r]) i=if r.client=(i:Int) then zce p i++[r] else zce p i:=by
 unfold zce
 rw [List.filter_append]
 by_cases h:r.client=(i:Int)
 ·rw [if_pos h]; simp [h]
 ·rw [if_neg h]; simp [h]
theorem ziw (p:List Rq) (r:Rq) (i:Nat):zcI (p++[r]) i=if r.client=(i:Int) then zcI p i++[(zbw (zd8 p) r.call).2] else zcI p i:=by
 unfold zcI zd8
 rw [List.map_append,List.map_cons,List.map_nil,zhV]
 simp only [zhI]
 rw [List.zip_append (by rw [zlB,List.length_map])]
 simp only [List.zip_cons_cons,List.zip_nil_right,List.filter_append]
 by_cases h:r.client=(i:Int)
 ·rw [if_pos h]; simp [h]
 ·rw [if_neg h]; simp [h]
theorem zfS (p:List Rq) (i:Nat):(zcI p i).length=(zce p i).length:=by
 have key:∀ (q:List Rq) (y:List (Int×Int)),q.length=y.length->(((q.zip y).filter fun x=>decide (x.1.client=(i:Int))).map fun x=>(⟨x.2.1,x.2.2⟩:Rp)).length=(q.filter fun r=>decide (r.client=(i:Int))).length:=by
  intro q
  induction q with
  | nil=>intro y _; simp
  | cons r q ih =>
   intro y hy
   cases y with
   | nil=>simp at hy
   | cons a y =>
    have:=ih y (by simpa using hy)
    by_cases h:r.client=(i:Int)
    ·simp [h] at this ⊢; exact this
    ·simp [h] at this ⊢; exact this
 exact key p _ (by rw [zlB,List.length_map])

theorem zgX {X:Type} {xs:List X} {t:Nat} {d:X} (h:t < xs.length):xs.getD t d ∈ xs:=by
 rw [List.getD_eq_getElem?_getD,List.getElem?_eq_getElem h]
 exact List.getElem_mem h
theorem zhg {l:List (List Cl)} (hl:za8 l) {i t:Nat} (hi:i < l.length) (ht:t < (l.getD i []).length):zbJ (zbi l i t)=0:=by
 have hg:l.getD i []=l[i]:=by simp [hi]
 have h8:=hl.2 (l.getD i []) (by rw [hg]; exact List.getElem_mem hi)
 have h3:=hl.1
 have hw:wrongCl ((l.getD i []).getD t zq0)=0:=h8.2 _ (zgX ht)
 unfold zbJ zbi
 rw [if_neg (by simp only []; omega)]
 exact hw
theorem ze2 {l:List (List Cl)} (hl:za8 l) {i t:Nat} (hi:i < l.length) (ht:t < (l.getD i []).length):wrongCl (zbi l i t).call=0:=(zeq (zhg hl hi ht)).2

def zrT (r:Rp):Prop:=0<=r.err/\r.err<=12/\-1073741824<=r.n/\r.n<=1073741824/\(0 < r.err->r.n=0)
theorem zoY {l:List (Int×Int)} {c:Cl} (h:Okn l) (hc:wrongCl c=0):zrT (zbw l c).2:=by
 obtain ⟨_,h2,h3,h4⟩:=zlW h hc
 have he:(zbw l c).2.err=0∨(zbw l c).2.err=3∨(zbw l c).2.err=6∨(zbw l c).2.err=9:=by
  unfold zbw
  repeat' split
  all_goals simp
 refine ⟨by omega,by omega,h3,h4,fun h0=>?_⟩
 rcases h2 with h2 | h2
 ·omega
 ·exact h2.1

def zkd (l:List (List Cl)) (p:List Rq):Prop:=∀ r ∈ p,∃ i t:Nat,i < l.length/\t < (l.getD i []).length/\r=zbi l i t
theorem zhN {l:List (List Cl)} (hl:za8 l) {p:List Rq} (hp:zkd l p):Okn (zd8 p):=by
 have:=(zsQ (cs:=p.map Rq.call) (fun c hc=>by
  obtain ⟨r,hr,rfl⟩:=List.mem_map.1 hc
  obtain ⟨i,t,hi,ht,rfl⟩:=hp r hr
  exact ze2 hl hi ht) p.length).1
 rwa [List.take_of_length_le (by simp)] at this
theorem zpY {l:List (List Cl)} (hl:za8 l) {p:List Rq} (hp:zkd l p) (i:Nat):∀ r ∈ zcI p i,zrT r:=by
 have key:∀ n,n<=p.length->∀ r ∈ zcI (p.take n) i,zrT r:=by
  intro n
  induction n with
  | zero=>intro _ r hr; simp [zcI] at hr
  | succ n ih =>
   intro hn r hr
   have hlt:n < p.length:=by omega
   rw [List.take_add_one,List.getElem?_eq_getElem hlt] at hr
   simp only [Option.toList_some] at hr
   rw [ziw] at hr
   split at hr
   ·rw [List.mem_append] at hr
    rcases hr with hr | hr
    ·exact ih (by omega) r hr
    ·simp only [List.mem_singleton] at hr
     subst hr
     obtain ⟨j,t,hj,ht,he⟩:=hp p[n] (List.getElem_mem hlt)
     refine zoY (zhN hl (p:=p.take n) fun q hq=>hp q (List.mem_of_mem_take hq)) ?_
     rw [he]
     exact ze2 hl hj ht
   ·exact ih (by omega) r hr
 have:=key p.length (Nat.le_refl _)
 rwa [List.take_length] at this
theorem ziF {l:List (List Cl)} (hl:za8 l) {p:List Rq} (hp:zkd l p) {i t:Nat} (hi:i < l.length) (ht:t < 8) (hd:t < (zcI p i).length):zbz ⟨i,t,(zcI p i).getD t ⟨0,0⟩⟩=0:=by
 have hm:(zcI p i).getD t ⟨0,0⟩ ∈ zcI p i:=by
  rw [List.getD_eq_getElem?_getD,List.getElem?_eq_getElem hd]; exact List.getElem_mem hd
 obtain ⟨h1,h2,h3,h4,h5⟩:=zpY hl hp i _ hm
 have:=hl.1
 unfold zbz
 rw [if_neg]
 simp only []
 omega
open Go Go.RowKit

def zbD (cl:List Cn) (k:Nat):Nat:=(cl.getD k (zbO [])).got.length

inductive Phase (l:List (List Cl)) (p:List Rq) (gen:Int) (up:Bool) (ks:List Nat) (bz:Option Nat) (i:Nat) (c:Cn):Prop
 | rest:i ∉ ks->bz≠some i->c.sent=false->c.box=[]->(zce p i).length=c.got.length->Phase l p gen up ks bz i c
 | wait:i ∈ ks->bz≠some i->c.sent=true->c.gen=gen->c.box=[]->c.got.length < (l.getD i []).length->Phase l p gen up ks bz i c
 | work:i ∉ ks->bz=some i->c.sent=true->c.gen=gen->c.box=[]->c.got.length < (l.getD i []).length->(zce p i).length=c.got.length->Phase l p gen up ks bz i c
 | hear:i ∉ ks->bz≠some i->c.sent=true->(zce p i).length=c.got.length+1->c.box=[zb1 ⟨i,c.got.length,(zcI p i).getD c.got.length ⟨0,0⟩⟩]->Phase l p gen up ks bz i c
 | lost:i ∉ ks->bz≠some i->c.sent=true->c.box=[]->c.got.length < (l.getD i []).length->(up=true->c.gen≠gen)->Phase l p gen up ks bz i c

structure CInv (l:List (List Cl)) (p:List Rq) (an:List An) (gen:Int) (up:Bool) (ks:List Nat) (bz:Option Nat) (i:Nat) (c:Cn):Prop where
 calls:c.calls=l.getD i []
 at_:c.at_=(c.got.length:Int)
 done:zce p i=(List.range (zce p i).length).map (zbi l i)
 most:(zce p i).length<=(l.getD i []).length
 got:c.got=(zcI p i).take c.got.length
 step:(zce p i).length=c.got.length∨(zce p i).length=c.got.length+1
 last:lastAn an i=if (zce p i).length=0 then (zeroAn,false) else (⟨i,((zce p i).length - 1:Nat),(zcI p i).getD ((zce p i).length - 1) ⟨0,0⟩⟩,true)
 hgen:c.gen<=gen
 phase:Phase l p gen up ks bz i c

structure MInv (l:List (List Cl)) (m:Mc) (ks:List Nat) (bz:Option Nat):Prop where
 nc:m.clients.length=l.length
 nodup:ks.Nodup
 ksl:∀ k ∈ ks,k < l.length
 box:m.server.box=ks.map fun k=>zbA (zbi l k (zbD m.clients k))
 busy:m.server.busy=bz.isSome
 idle:bz=none->m.server=zbM m.server.gen m.server.box
 work:∀ i,bz=some i->i < l.length/\m.server.now=zbi l i (zbD m.clients i)/\m.server.says=(zbw (zd8 m.store.past) m.server.now.call).2 /\
  zaD m.store.cells m.server.plan=zaD (zaD m.store.cells m.store.undo) (zbq (zd8 m.store.past) m.server.now.call)/\m.server.plan.length<=3
 down:m.up=false->ks=[]/\bz=none/\1<=m.pause/\m.pause<=3
 upp:m.up=true->m.pause=0
 clean:m.up=true->bz=none->m.store.undo=[]
 cells:m.store.cells.length=11
 right:zeM (zaD m.store.cells m.store.undo)=0
 nm:zbR (zaD m.store.cells m.store.undo)=zd8 m.store.past
 undo:∀ q ∈ m.store.undo,0<=q.1/\q.1<=10
 past:zkd l m.store.past
 falls:0<=m.falls/\m.falls<=6
 gens:0<=m.server.gen/\(m.up=true->m.server.gen=m.falls)/\(m.up=false->m.server.gen+1=m.falls)
 clients:∀ i c,m.clients[i]?=some c->CInv l m.store.past m.store.answers m.server.gen m.up ks bz i c

theorem zoH (l:List (List Cl)):MInv l (za1 l) [] none where
 nc:=by simp [za1]
 nodup:=List.nodup_nil
 ksl:=fun k hk=>by cases hk
 box:=rfl
 busy:=rfl
 idle:=fun _=>rfl
 work:=fun i hi=>by cases hi
 down:=fun h=>by cases h
 upp:=fun _=>rfl
 clean:=fun _ _=>rfl
 cells:=rfl
 right:=by show zeM (zaD (List.replicate 11 0) [])=0; decide
 nm:=by show zbR (zaD (List.replicate 11 0) [])=[]; decide
 undo:=fun q hq=>by cases hq
 past:=fun r hr=>by cases hr
 falls:=⟨Int.le_refl _,by show (0:Int)<=6; decide⟩
 gens:=⟨Int.le_refl _,fun _=>rfl,fun h=>by cases h⟩
 clients:=fun i c hc=>by
  have hc':(l.map zbO)[i]?=some c:=hc
  rw [List.getElem?_map] at hc'
  cases hg:l[i]? with
  | none=>rw [hg] at hc'; cases hc'
  | some cs =>
   rw [hg] at hc'
   simp at hc'
   subst hc'
   have hd:l.getD i []=cs:=by simp [hg]
   exact ⟨hd.symm,rfl,rfl,Nat.zero_le _,rfl,.inl rfl,rfl,Int.le_refl _,.rest (by simp) (by simp) rfl rfl rfl⟩

theorem Phase.other {l:List (List Cl)} {p p':List Rq} {gen:Int} {up:Bool} {ks ks':List Nat} {bz bz':Option Nat} {i:Nat} {c:Cn} (h:Phase l p gen up ks bz i c)
  (hm:zce p' i=zce p i) (ht:zcI p' i=zcI p i) (hk:i ∈ ks'↔i ∈ ks) (hb:bz'=some i↔bz=some i):Phase l p' gen up ks' bz' i c:=by
 cases h with
 | rest a b d e f=>exact .rest (fun x=>a (hk.1 x)) (fun x=>b (hb.1 x)) d e (by rw [hm]; exact f)
 | wait a b d e f g=>exact .wait (hk.2 a) (fun x=>b (hb.1 x)) d e f g
 | work a b d e f g k=>exact .work (fun x=>a (hk.1 x)) (hb.2 b) d e f g (by rw [hm]; exact k)
 | hear a b d e f=>exact .hear (fun x=>a (hk.1 x)) (fun x=>b (hb.1 x)) d (by rw [hm]; exact e) (by rw [ht]; exact f)
 | lost a b d e f g=>exact .lost (fun x=>a (hk.1 x)) (fun x=>b (hb.1 x)) d e f g
theorem CInv.other {l:List (List Cl)} {p p':List Rq} {an an':List An} {gen:Int} {up:Bool} {ks ks':List Nat} {bz bz':Option Nat} {i:Nat} {c:Cn} (h:CInv l p an gen up ks bz i c)
  (hm:zce p' i=zce p i) (ht:zcI p' i=zcI p i) (ha:lastAn an' i=lastAn an i) (hk:i ∈ ks'↔i ∈ ks) (hb:bz'=some i↔bz=some i):CInv l p' an' gen up ks' bz' i c :=
 ⟨h.calls,h.at_,by rw [hm]; exact h.done,by rw [hm]; exact h.most,by rw [ht]; exact h.got,by rw [hm]; exact h.step,by rw [hm,ht,ha]; exact h.last,h.hgen,h.phase.other hm ht hk hb⟩

theorem zra (f:Int):1<=pauseOf f/\pauseOf f<=3:=by
 unfold pauseOf
 repeat' split
 all_goals omega

theorem zqC {l:List (List Cl)} {m:Mc} {ks:List Nat} {bz:Option Nat} (h:MInv l m ks bz):∃ ks' bz',MInv l (zd5 m).1 ks' bz':=by
 unfold zd5
 by_cases hu:m.up=true
 case neg=>rw [if_pos hu]; exact ⟨ks,bz,h⟩
 rw [if_neg (by simpa using hu)]
 by_cases hf:6<=m.falls
 ·rw [if_pos hf]; exact ⟨ks,bz,h⟩
 rw [if_neg hf]
 refine ⟨[],none,?_⟩
 have hp:=zra (m.falls+1)
 have hfl:=h.falls
 have hge:=h.gens
 exact {
  nc:=h.nc
  nodup:=List.nodup_nil
  ksl:=fun k hk=>by cases hk
  box:=rfl
  busy:=rfl
  idle:=fun _=>rfl
  work:=fun i hi=>by cases hi
  down:=fun _=>⟨rfl,rfl,hp.1,hp.2⟩
  upp:=fun h=>by cases h
  clean:=fun h=>by cases h
  cells:=h.cells
  right:=h.right
  nm:=h.nm
  undo:=h.undo
  past:=h.past
  falls:=by show 0<=m.falls+1/\m.falls+1<=6; omega
  gens:=⟨hge.1,(fun h=>by cases h),fun _=>by show m.server.gen+1=m.falls+1; rw [hge.2.1 hu]⟩
  clients:=fun i c hc=>by
   have hi:=h.clients i c hc
   refine ⟨hi.calls,hi.at_,hi.done,hi.most,hi.got,hi.step,hi.last,hi.hgen,?_⟩
   cases hi.phase with
   | rest a b d e f=>exact .rest (by simp) (by simp) d e f
   | wait a b d e f g=>exact .lost (by simp) (by simp) d f g (fun h=>by cases h)
   | work a b d e f g k=>exact .lost (by simp) (by simp) d f g (fun h=>by cases h)
   | hear a b d e f=>exact .hear (by simp) (by simp) d e f
   | lost a b d e f g=>exact .lost (by simp) (by simp) d e f (fun h=>by cases h) }

theorem zfz {l:List (List Cl)} {m:Mc} {ks:List Nat} {bz:Option Nat} (h:MInv l m ks bz):∃ ks' bz',MInv l (za6 m) ks' bz':=by
 unfold za6
 by_cases hu:m.up=true
 ·rw [if_pos hu]; exact ⟨ks,bz,h⟩
 rw [if_neg hu]
 have hu':m.up=false:=by simpa using hu
 obtain ⟨rfl,rfl,hp1,hp2⟩:=h.down hu'
 by_cases hp:1 < m.pause
 ·rw [if_pos hp]
  exact ⟨[],none,{ h with down:=fun _=>⟨rfl,rfl,by show 1<=m.pause - 1; omega,by show m.pause - 1<=3; omega⟩,upp:=fun h=>absurd h hu,clean:=fun h=>absurd h hu }⟩
 rw [if_neg hp]
 refine ⟨[],none,?_⟩
 have hfl:=h.falls
 have hge:=h.gens
 exact {
  nc:=h.nc
  nodup:=List.nodup_nil
  ksl:=fun k hk=>by cases hk
  box:=rfl
  busy:=rfl
  idle:=fun _=>rfl
  work:=fun i hi=>by cases hi
  down:=fun h=>by cases h
  upp:=fun _=>rfl
  clean:=fun _ _=>rfl
  cells:=by show (zaD m.store.cells m.store.undo).length=11; rw [zb5]; exact h.cells
  right:=h.right
  nm:=h.nm
  undo:=fun q hq=>by cases hq
  past:=h.past
  falls:=h.falls
  gens:=⟨by show 0<=m.server.gen+1; omega,fun _=>hge.2.2 hu',fun h=>by cases h⟩
  clients:=fun i c hc=>by
   have hi:=h.clients i c hc
   have hgn:=hi.hgen
   refine ⟨hi.calls,hi.at_,hi.done,hi.most,hi.got,hi.step,hi.last,by show c.gen<=m.server.gen+1; omega,?_⟩
   cases hi.phase with
   | rest a b d e f=>exact .rest (by simp) (by simp) d e f
   | wait a b d e f g=>cases a
   | work a b d e f g k=>cases b
   | hear a b d e f=>exact .hear (by simp) (by simp) d e f
   | lost a b d e f g=>exact .lost (by simp) (by simp) d e f (fun _=>by show c.gen≠m.server.gen+1; omega) }
open Go Go.RowKit

theorem zfH {cl:List Cn} {i k:Nat} {c:Cn} (h:k≠i):zbD (cl.set i c) k=zbD cl k:=by
 unfold zbD
 rw [List.getD_eq_getElem?_getD,List.getD_eq_getElem?_getD,List.getElem?_set_ne (fun e=>h e.symm)]
theorem zb9 {cl:List Cn} {i:Nat} {c:Cn} (h:cl[i]?=some c):zbD cl i=c.got.length:=by
 unfold zbD
 rw [List.getD_eq_getElem?_getD,h]
 rfl
theorem zlV {X:Type} {cl:List X} {i k:Nat} {c c' d:X} (hc:cl[i]?=some c) (h:(cl.set i c')[k]?=some d):k=i/\d=c'∨k≠i/\cl[k]?=some d:=by
 by_cases e:k=i
 ·subst e
  have hl:k < cl.length:=(List.getElem?_eq_some_iff.1 hc).1
  rw [List.getElem?_set_self hl] at h
  exact .inl ⟨rfl,(Option.some.inj h).symm⟩
 ·rw [List.getElem?_set_ne (fun x=>e x.symm)] at h
  exact .inr ⟨e,h⟩
theorem zhW {cl:List Cn} {i:Nat} {c c':Cn} (hc:cl[i]?=some c) (hg:c'.got.length=c.got.length) (k:Nat):zbD (cl.set i c') k=zbD cl k:=by
 by_cases e:k=i
 ·subst e
  have hl:k < cl.length:=(List.getElem?_eq_some_iff.1 hc).1
  rw [zb9 (c:=c') (List.getElem?_set_self hl),zb9 hc,hg]
 ·exact zfH e

theorem zk7 {c:Cn} {me gen:Int} {up:Bool} {a:An} (hb:c.box=[zb1 a]) (hw:zbz a=0) (h1:a.client=me) (h2:a.token=c.at_) (h3:c.sent=true) :
  zcy c me gen up=(⟨c.calls,c.at_+1,false,c.gen,[],c.got++[a.reply]⟩,[],0):=by
 unfold zcy
 rw [hb]
 simp only [zjr hw]
 rw [if_pos (by exact ⟨trivial,h1,h2,h3⟩)]
theorem zeT {c:Cn} {me gen:Int} {up:Bool} (hb:c.box=[]):zcy c me gen up=if (c.calls.length:Int)<=c.at_ then (c,[],11) else if ¬ up then (c,[],10) else if c.sent/\c.gen=gen then (c,[],12) else (⟨c.calls,c.at_,true,gen,[],c.got⟩,zbA ⟨me,c.at_,c.calls.getD c.at_.toNat ⟨0,0,0,0⟩⟩,0):=by
 unfold zcy
 rw [hb]

theorem zp1 {X:Type} {xs:List X} {n:Nat} {d:X} (h:n < xs.length):xs.take (n+1)=xs.take n++[xs.getD n d]:=by
 rw [List.take_add_one,List.getD_eq_getElem?_getD,List.getElem?_eq_getElem h]
 rfl

theorem zhY:∀ {n:Nat} {ks:List Nat},ks.Nodup->(∀ k ∈ ks,k < n)->ks.length<=n
 | 0,ks,_,h=>by
  cases ks with
  | nil=>exact Nat.le_refl _
  | cons k ks=>exact absurd (h k (by simp)) (by omega)
 | n+1,ks,hd,h=>by
  have h1:=zhY (n:=n) (ks:=ks.erase n) (hd.erase n) (fun k hk=>by
   have h2:=h k (List.mem_of_mem_erase hk)
   have h3:k≠n:=fun e=>by subst e; exact absurd hk (hd.not_mem_erase)
   omega)
  by_cases hm:n ∈ ks
  ·have:=List.length_erase_of_mem hm
   omega
  ·rw [List.erase_of_not_mem hm] at h1
   omega

theorem zjK {l:List (List Cl)} (hl:za8 l) {m:Mc} {ks:List Nat} {bz:Option Nat} (h:MInv l m ks bz) (n:Int):∃ ks' bz',MInv l (doM m 1 n).1 ks' bz':=by
 unfold doM
 rw [if_pos rfl]
 by_cases hn:n < 0∨(m.clients.length:Int)<=n
 ·rw [if_pos hn]; exact ⟨ks,bz,h⟩
 rw [if_neg hn]
 obtain ⟨i,rfl⟩:∃ i:Nat,n=(i:Int):=⟨n.toNat,by omega⟩
 simp only [Int.toNat_natCast]
 have hi:i < m.clients.length:=by omega
 have hil:i < l.length:=by rw [<- h.nc]; exact hi
 obtain ⟨c,hc⟩:∃ c,m.clients[i]?=some c:=⟨_,List.getElem?_eq_getElem hi⟩
 have hgd:m.clients.getD i (zbO [])=c:=by rw [List.getD_eq_getElem?_getD,hc]; rfl
 rw [hgd]
 have ci:=h.clients i c hc
 have h8:(l.getD i []).length<=8:=(hl.2 _ (zgX hil)).1
 generalize hG:zcy c (i:Int) m.server.gen m.up=G
 have hsame:G.2.2≠0->∃ ks' bz',MInv l (if G.2.2≠0 then (m,G.2.2) else if G.2.1≠[] then if (zbY m.server G.2.1).2≠0 then (m,(zbY m.server G.2.1).2) else ({ m with server:=(zbY m.server G.2.1).1,clients:=m.clients.set i G.1 },0) else ({ m with clients:=m.clients.set i G.1 },0)).1 ks' bz':=fun hne=>by
  rw [if_pos hne]; exact ⟨ks,bz,h⟩
 have hempty:c.box=[]->i ∉ ks->bz≠some i->(c.sent=true->m.up=true->c.gen≠m.server.gen) ->
   ∃ ks' bz',MInv l (if G.2.2≠0 then (m,G.2.2) else if G.2.1≠[] then if (zbY m.server G.2.1).2≠0 then (m,(zbY m.server G.2.1).2) else ({ m with server:=(zbY m.server G.2.1).1,clients:=m.clients.set i G.1 },0) else ({ m with clients:=m.clients.set i G.1 },0)).1 ks' bz':=by
  intro hb hk hz hs
  rw [zeT hb] at hG
  by_cases hd:(c.calls.length:Int)<=c.at_
  ·rw [if_pos hd] at hG; exact hsame (by rw [<- hG]; simp)
  rw [if_neg hd] at hG
  by_cases hu:m.up=true
  case neg=>rw [if_pos hu] at hG; exact hsame (by rw [<- hG]; simp)
  rw [if_neg (fun x=>x hu)] at hG
  by_cases hw:c.sent=true/\c.gen=m.server.gen
  ·rw [if_pos hw] at hG; exact hsame (by rw [<- hG]; simp)
  rw [if_neg hw] at hG
  have hcalls:=ci.calls
  have hat:=ci.at_
  have hlt:c.got.length < (l.getD i []).length:=by rw [<- hcalls]; omega
  have hreq:(⟨(i:Int),c.at_,c.calls.getD c.at_.toNat ⟨0,0,0,0⟩⟩:Rq)=zbi l i c.got.length:=by
   unfold zbi
   rw [hcalls,hat]
   rfl
  rw [hreq] at hG
  subst hG
  have hks:ks.length < 3:=by
   have hsub:(i::ks).Nodup:=List.nodup_cons.2 ⟨hk,h.nodup⟩
   have hle:(i::ks).length<=l.length:=zhY hsub (fun x hx=>by
    rcases List.mem_cons.1 hx with rfl | hx
    ·exact hil
    ·exact h.ksl x hx)
   have:=hl.1
   simp at hle
   omega
  have hbl:m.server.box.length=ks.length:=by rw [h.box,List.length_map]
  have hcome:zbY m.server (zbA (zbi l i c.got.length))=({ m.server with box:=m.server.box++[zbA (zbi l i c.got.length)] },0):=by
   unfold zbY
   rw [if_neg (by omega)]
  rw [if_neg (by simp),if_pos (by simp [zbA])]
  simp only []
  rw [hcome,if_neg (by simp)]
  refine ⟨ks++[i],bz,?_⟩
  have hgs:=fun k=>zhW (c':=(⟨c.calls,c.at_,true,m.server.gen,[],c.got⟩:Cn)) hc rfl k
  exact {
   nc:=by show (m.clients.set i _).length=_; rw [List.length_set]; exact h.nc
   nodup:=by
    rw [List.nodup_append]
    refine ⟨h.nodup,by simp,fun x hx y hy e=>?_⟩
    simp at hy
    subst hy
    subst e
    exact hk hx
   ksl:=fun k hx=>by
    rcases List.mem_append.1 hx with hx | hx
    ·exact h.ksl k hx
    ·simp at hx; subst hx; exact hil
   box:=by
    show m.server.box++[zbA (zbi l i c.got.length)]=_
    rw [List.map_append,h.box]
    simp only [hgs]
    rw [List.map_cons,List.map_nil,zb9 hc]
   busy:=h.busy
   idle:=fun hz=>by
    show ({ m.server with box:=m.server.box++[zbA (zbi l i c.got.length)] }:Sv)=zbM m.server.gen (m.server.box++[zbA (zbi l i c.got.length)])
    rw [h.idle hz]
    rfl
   work:=fun j hj=>by
    obtain ⟨w1,w2,w3,w4,w5⟩:=h.work j hj
    exact ⟨w1,by show m.server.now=zbi l j (zbD (m.clients.set i _) j); rw [hgs]; exact w2,w3,w4,w5⟩
   down:=fun hd=>absurd hd (by simp [hu])
   upp:=h.upp
   clean:=h.clean
   cells:=h.cells
   right:=h.right
   nm:=h.nm
   undo:=h.undo
   past:=h.past
   falls:=h.falls
   gens:=h.gens
   clients:=fun k d hd=>by
    rcases zlV hc hd with ⟨rfl,rfl⟩ | ⟨hne,hd⟩
    ·exact ⟨hcalls,hat,ci.done,ci.most,ci.got,ci.step,ci.last,Int.le_refl _,.wait (by simp) hz rfl rfl rfl hlt⟩
    ·refine (h.clients k d hd).other rfl rfl rfl ?_ Iff.rfl
     simp [hne] }
 cases ci.phase with
 | rest a b d e f=>exact hempty e a b (fun x=>by rw [d] at x; cases x)
 | wait a b d e f g =>
  refine hsame ?_
  rw [<- hG,zeT f]
  have hcalls:=ci.calls
  have hat:=ci.at_
  rw [if_neg (by rw [hcalls,hat]; omega)]
  by_cases hu:m.up=true
  ·rw [if_neg (fun x=>x hu),if_pos ⟨d,e⟩]; simp
  ·rw [if_pos hu]; simp
 | work a b d e f g k =>
  refine hsame ?_
  rw [<- hG,zeT f]
  have hcalls:=ci.calls
  have hat:=ci.at_
  rw [if_neg (by rw [hcalls,hat]; omega)]
  by_cases hu:m.up=true
  ·rw [if_neg (fun x=>x hu),if_pos ⟨d,e⟩]; simp
  ·rw [if_pos hu]; simp
 | lost a b d e f g=>exact hempty e a b (fun _=>g)
 | hear a b d e f =>
  have htl:=zfS m.store.past i
  have hmost:=ci.most
  have hw:=ziF hl h.past hil (t:=c.got.length) (by omega) (by omega)
  rw [zk7 f hw rfl ci.at_.symm d] at hG
  subst hG
  rw [if_neg (by simp),if_neg (by simp)]
  simp only []
  refine ⟨ks,bz,?_⟩
  have hgn:∀ k,k≠i->zbD (m.clients.set i (⟨c.calls,c.at_+1,false,c.gen,[],c.got++[(zcI m.store.past i).getD c.got.length ⟨0,0⟩]⟩:Cn)) k=zbD m.clients k:=fun k hk=>zfH hk
  exact {
   nc:=by show (m.clients.set i _).length=_; rw [List.length_set]; exact h.nc
   nodup:=h.nodup
   ksl:=h.ksl
   box:=by
    show m.server.box=_
    rw [h.box]
    refine List.map_congr_left fun k hk=>?_
    rw [hgn k (fun e=>by subst e; exact a hk)]
   busy:=h.busy
   idle:=h.idle
   work:=fun j hj=>by
    obtain ⟨w1,w2,w3,w4,w5⟩:=h.work j hj
    exact ⟨w1,by show m.server.now=zbi l j (zbD (m.clients.set i _) j); rw [hgn j (fun e=>by subst e; exact b hj)]; exact w2,w3,w4,w5⟩
   down:=h.down
   upp:=h.upp
   clean:=h.clean
   cells:=h.cells
   right:=h.right
   nm:=h.nm
   undo:=h.undo
   past:=h.past
   falls:=h.falls
   gens:=h.gens
   clients:=fun k x hx=>by
    rcases zlV hc hx with ⟨rfl,rfl⟩ | ⟨hne,hx⟩
    ·have hgl:(c.got++[(zcI m.store.past k).getD c.got.length ⟨0,0⟩]).length=c.got.length+1:=by simp
     refine ⟨ci.calls,?_,ci.done,ci.most,?_,.inl ?_,ci.last,ci.hgen,.rest a b rfl rfl ?_⟩
     ·show c.at_+1=_; rw [hgl,ci.at_]; omega
     ·show c.got++_=_
      rw [hgl,zp1 (by omega:c.got.length < (zcI m.store.past k).length),<- ci.got]
     ·show _=List.length _; rw [hgl]; exact e
     ·show _=List.length _; rw [hgl]; exact e
    ·exact h.clients k x hx }
end Go.Mk

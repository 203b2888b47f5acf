/- Texts of the proof, merged: J7 C2 C7 M1 M2 M3. -/
import Derived.Test.YtdmipnnfoolelaeGreatKUA
import Derived.Test.YtdmipnnfoolelaeGreatKU1
import Derived.MapKept
import Derived.Test.YtdmipnnfoolelaeGreatKUW
import Derived.Test.YtdmipnnfoolelaeGreatKUN
import Derived.Test.YtdmipnnfoolelaeGreatKU0
import Derived.Test.YtdmipnnfoolelaeGreatKUH
import Derived.Test.YtdmipnnfoolelaeGreatKUQ
import Derived.Test.YtdmipnnfoolelaeGreatKUJ
import Derived.Test.YtdmipnnfoolelaeGreatKUK
import Derived.Test.YtdmipnnfoolelaeGreatKUM
import Derived.Handy
set_option maxHeartbeats 4000000
set_option maxRecDepth 100000

namespace Go.Mk
open Go Go.RowKit Go.MapKept

structure Grew (g:Nat) (a w:World):Prop where
 row:a.grownBy w (some g)
 lt:g < a.heap.size
theorem Grew.refl {g:Nat} {a:World} (h:g < a.heap.size):Grew g a a:=⟨World.grownBy.refl a _,h⟩
theorem Grew.trans {g:Nat} {a b c:World} (h:Grew g a b) (e:Ext b c):Grew g a c:=⟨za1 h.row (e.grownBy _),h.lt⟩
theorem Grew.size {g:Nat} {a b:World} (h:Grew g a b):a.heap.size<=b.heap.size:=h.row.size
theorem Grew.then {g:Nat} {a b c:World} (h:Grew g a b) (e:Grew g b c):Grew g a c:=⟨za1 h.row e.row,h.lt⟩
theorem Grew.own {g b:Nat} {a w w':World} {cs:Array Value} {t:TypeId} (h:Grew g a w) (m:Wrote w w' b cs t) (hb:a.heap.size<=b):Grew g a w' :=
 ⟨⟨m.grown.os.trans h.row.os,m.grown.tape.trans h.row.tape,m.grown.output.trans h.row.output,Nat.le_trans h.row.size m.grown.size,fun k hk hne=>(m.grown.block k (Nat.lt_of_lt_of_le hk h.row.size) (fun e=>by have e2:k=b:=Option.some.inj e; omega)).trans (h.row.block k hk hne)⟩,h.lt⟩
theorem Grew.wrote {g:Nat} {a w w':World} {cs:Array Value} {t:TypeId} (h:Grew g a w) (m:Wrote w w' g cs t):Grew g a w':=⟨za1 h.row m.grown,h.lt⟩
theorem Grew.ext {g:Nat} {a b c:World} (h:Ext a b) (e:Grew g b c) (hg:a.heap.size<=g):Ext a c:=h.grown e.row (fun k hk=>by cases hk; exact hg)
theorem Grew.old {g:Nat} {a w:World} (h:Grew g a w) {k:Nat} {x:Obj} (hk:a.heap[k]?=some x) (hne:k≠g):w.heap[k]?=some x:=by
 rw [h.row.block k (Array.getElem?_eq_some_iff.1 hk).1 (fun e=>hne (Option.some.inj e))]
 exact hk
theorem Grew.rd {g:Nat} {a w:World} {A:Nat->Prop} {φ:World->Prop} (h:Grew g a w) (hr:Rd A φ a) (hg:¬ A g):Rd A φ w:=hr.grown h.row (fun k hk=>by cases hk; exact hg)
theorem zOg {w w1 w2:World} {b g:Nat} {o:Obj} (m:Hid (Made w1 w2 b o)) (e:Hid (Grew g w w1)):Hid (w.heap.size<=b):=by
 unfold Hid
 have q:=m.o.at_
 have q2:=e.o.size
 omega
section
variable {w w' a:World} {b g:Nat} {o:Obj} {cs:Array Value} {t:TypeId}
theorem yet (e:Hid (Grew g a w)) (m:Hid (Made w w' b o)):Hid (Grew g a w'):=e.o.trans m.o.ext
theorem ywe (m:Hid (Wrote w w' b cs t)) (e:Hid (Grew g a w)) (h:Hid (a.heap.size<=b)):Hid (Grew g a w'):=e.o.own m.o h.o
end

/-! ### A map from numbers to functions -/
section
variable {P:Program} {ops:Array Oper} {rest:List Oper} {o:Oper} {a:Act} {w:World} {Q:Exit->Act->World->Prop}
def zrb:Op->Bool
 | .makeMap ..=>true
 | .insert ..=>true
 | _=>false
theorem zsm (_:zrb o.op=true) (h:Hid (wpList P ops Q (o::rest) a w)):wpList P ops Q (o::rest) a w:=h
theorem zk1 (hg:o.guard=none) (t:TypeId) (ho:o.op=.makeMap t none) (h:∀ b w',Hid (Made w w' b (.map #[] 0))->wpList P ops Q rest (a.put o.dst (.map (some b))) w'):wpList P ops Q (o::rest) a w:=by
 refine wpList_plain hg fun K hK=>?_
 have hrun:(execOp a.eval o).run P w=.ok (.value (.map (some w.heap.size))) (w.alloc (.map #[] 0)):=by
  unfold execOp
  simp [ho,Instr.makeMap,Result.andThen]
 unfold Oper.wp
 rw [hrun,Oper.upon_value]
 exact hK _ _ (h _ _ (znP w _))
theorem zfY (hg:o.guard=none) (t k e:TypeId) (m x v:Operand) (ho:o.op=.insert t m x v) (hm:P.underlying t=some (.map k e)) (hk:P.underlying k=some (.int .i64)) (b:Nat) (hb:a.eval m=.map (some b)) {es:Array MapEntry} {c:Nat} (hB:Hid (w.heap[b]?=some (.map es c)))
  (n:Int) (hx:a.eval x=I n) (u:Value) (hv:a.eval v=u) (hf:Instr.findNow (.int .i64) (I n) es.toList 0=some none)
  (h:∀ w',Hid (w'.heap[b]?=some (.map (es.push ⟨I n,u,c⟩) (c+1)))->w.grownBy w' (some b)->wpList P ops Q rest (a.put o.dst undef) w'):wpList P ops Q (o::rest) a w:=by
 refine wpList_plain hg fun K hK=>?_
 have hrun:(Instr.mapUpdate t (.map (some b)) (I n) u).run P w=.ok () { w with heap:=w.heap.setIfInBounds b (.map (es.push ⟨I n,u,c⟩) (c+1)) }:=by
  simp [Instr.mapUpdate,run_underlying hm,MapKept.run_getObj_map hB.o,MapKept.run_checkKey hk (show IsKey (.int .i64) (I n) from rfl),MapKept.run_findKey hk hf,MapKept.run_setObj_map _ hB.o,Result.andThen]
 unfold Oper.wp execOp
 simp only [ho,hb,hx,hv,Sem.run_bind,hrun,Sem.run_pure,Result.andThen_ok]
 refine hK _ _ (h _ (heap_set hB.o).1 ⟨rfl,rfl,rfl,by simp,fun k _ hne=>(heap_set hB.o).2 k (fun e=>hne (by rw [e]))⟩)
theorem zpM {t k e:TypeId} (hm:P.underlying t=some (.map k e)) (hk:P.underlying k=some (.int .i64)) {b:Nat} {es:Array MapEntry} {c:Nat} (hB:w.heap[b]?=some (.map es c)) (n:Int) {j:Nat} {v:Value} (hf:Instr.findNow (.int .i64) (I n) es.toList 0=some (some (j,v))) :
  (Instr.lookup t (.map (some b)) (I n) true).run P w=.ok (.tuple #[v,.bool true]) w:=by
 simp [Instr.lookup,run_underlying hm,MapKept.run_getObj_map hB,MapKept.run_checkKey hk (show IsKey (.int .i64) (I n) from rfl),MapKept.run_findKey hk hf,Result.andThen]
theorem zmk {t k e:TypeId} (hm:P.underlying t=some (.map k e)) (hk:P.underlying k=some (.int .i64)) {b:Nat} {es:Array MapEntry} {c:Nat} (hB:w.heap[b]?=some (.map es c)) (n:Int) (hf:Instr.findNow (.int .i64) (I n) es.toList 0=some none) {z:Value} (hz:(zeroValue e).run P w=.ok z w) :
  (Instr.lookup t (.map (some b)) (I n) true).run P w=.ok (.tuple #[z,.bool false]) w:=by
 simp [Instr.lookup,run_underlying hm,MapKept.run_getObj_map hB,MapKept.run_checkKey hk (show IsKey (.int .i64) (I n) from rfl),MapKept.run_findKey hk hf,hz,Result.andThen]
end
def fnV (F:FuncId):Value:=.func (.func F) #[] #[]
end Go.Mk

namespace Go.Proofs.YtdmipnnfoolelaeGreat
open Go.RowKit Go.Mk

def zoS:Array MapEntry:=#[⟨I 1,fnV 45,0⟩,⟨I 2,fnV 46,1⟩,⟨I 3,fnV 47,2⟩,⟨I 4,fnV 48,3⟩]
theorem zkh (w:World):zaU Tryz.prog 26 #[] w fun r w'=>∃ b,r=.map (some b)/\w'.heap[b]?=some (.map zoS 4):=by
 unfold zaU;go_enter Tryz.func26,Tryz.ntmps26
 go_wp2_with ((with_reducible refine zsm ?_ ?_); exact rfl)
 unfold Hid;refine zk1 rfl 75 rfl (fun b w1 M1=>?_);have EW:Hid (Ext w w1):=M1.o.ext;have O_b:Hid (w.heap.size<=b):=by unfold Hid; have q:=M1.o.at_; omega
 have B_b:=zmb M1;clear M1;go_wp2_with ((with_reducible refine zsm ?_ ?_); exact rfl)
 unfold Hid;refine zfY rfl 75 3 73 (.tmp 1) _ _ rfl zoH zu3 b rfl B_b 1 rfl (fnV 45) rfl (by rfl) (fun w2 hb hg=>?_);replace B_b:=hb;replace EW:=zhd (EW.o.grown hg (fun k hk=>by cases hk; exact O_b.o));clear hb hg;go_wp2_with ((with_reducible refine zsm ?_ ?_); exact rfl)
 unfold Hid;refine zfY rfl 75 3 73 (.tmp 1) _ _ rfl zoH zu3 b rfl B_b 2 rfl (fnV 46) rfl (by rfl) (fun w3 hb hg=>?_);replace B_b:=hb;replace EW:=zhd (EW.o.grown hg (fun k hk=>by cases hk; exact O_b.o));clear hb hg;go_wp2_with ((with_reducible refine zsm ?_ ?_); exact rfl)
 unfold Hid;refine zfY rfl 75 3 73 (.tmp 1) _ _ rfl zoH zu3 b rfl B_b 3 rfl (fnV 47) rfl (by rfl) (fun w4 hb hg=>?_);replace B_b:=hb;replace EW:=zhd (EW.o.grown hg (fun k hk=>by cases hk; exact O_b.o));clear hb hg;go_wp2_with ((with_reducible refine zsm ?_ ?_); exact rfl)
 unfold Hid;refine zfY rfl 75 3 73 (.tmp 1) _ _ rfl zoH zu3 b rfl B_b 4 rfl (fnV 48) rfl (by rfl) (fun w5 hb hg=>?_);replace B_b:=hb;replace EW:=zhd (EW.o.grown hg (fun k hk=>by cases hk; exact O_b.o));clear hb hg;go_wp2
 go_ret
 exact ⟨_,rfl,EW.o,b,rfl,B_b.o⟩

def zqY (A:Nat->Prop) (m:Mc) (e:Int) (r:Value) (w:World):Prop:=∃ c u a p box plan cl,r=.tuple #[.agg (zaW m c u a p box plan cl).toArray,I e]/\RdM A w m c u a p box plan cl
def zi1 (F:FuncId) (kind:Int):Prop:=∀ (l:List (List Cl)) (m:Mc) (k:Nat) (n:Int) (s:Nat) (B:Nat->Prop) (c u a p box plan:Value) (g:Nat) (css:List (List Value)) (w:World),OwnMc s B w m c u a p box plan g css->Gd l m k->k<=500 ->
 Calls Tryz.prog F #[.agg (zaW m c u a p box plan (.slice (some ⟨g,0,none⟩) m.clients.length m.clients.length)).toArray,I n] w fun e w'=>∃ r m',e=.returned r/\Grew g w w'/\((doM m kind n).2=0->m'=(doM m kind n).1)/\zqY (fun k=>(B k∨k=g)∨w.heap.size<=k) m' (doM m kind n).2 r w'
theorem OwnMc.cut {s:Nat} {B:Nat->Prop} {w:World} {m:Mc} {c u a p box plan:Value} {g:Nat} {css:List (List Value)} (h:OwnMc s B w m c u a p box plan g css):OwnMc s (fun k=>B k/\k < w.heap.size) w m c u a p box plan g css :=
 ⟨fun k hk=>h.lo k hk.1,h.at_,fun hk=>h.off hk.1,h.rd.widen fun _ hk hb=>⟨hb,hk⟩,h.row⟩
theorem OwnMc.ext {s:Nat} {B:Nat->Prop} {w w':World} {m:Mc} {c u a p box plan:Value} {g:Nat} {css:List (List Value)} (h:OwnMc s B w m c u a p box plan g css) (he:Ext w w'):OwnMc s B w' m c u a p box plan g css:=⟨h.lo,h.at_,h.off,h.rd.ext he,zak h.row he⟩
theorem OwnMc.gsize {s:Nat} {B:Nat->Prop} {w:World} {m:Mc} {c u a p box plan:Value} {g:Nat} {css:List (List Value)} (h:OwnMc s B w m c u a p box plan g css):g < w.heap.size:=(h.row.lt g rfl).2

theorem zgv (m:Mc) (c u a p box plan:Value) (cl:Option Addr) (cc:Nat) (n:Int) (w:World) :
  zaU Tryz.prog 68 #[.agg (zaW m c u a p box plan (.slice cl m.clients.length cc)).toArray,I n] w fun r _=>r=.bool (decide (0<=n) && decide (n < (m.clients.length:Int))):=by
 unfold zaU;have EW:=zhd (Ext.refl w);obtain ⟨⟨sc,su,sa,sp⟩,⟨gen,bl,busy,⟨nc,nt,⟨nk,na,no,nn⟩⟩,pl,⟨se,sn⟩⟩,up,pause,falls,cls⟩:=m;simp only [zaW] at *;obtain ⟨BV,hBV⟩:∃ b,(decide (0<=n) && decide (n < (cls.length:Int)))=b:=⟨_,rfl⟩;rw [hBV];have HBV:=zhd hBV;clear hBV;go_enter Tryz.func68,Tryz.ntmps68
 go_wp2_with (with_reducible refine zT ?_)
 refine zaj rfl 44 (.tmp 0) rfl #[c,u,a,p,I gen,box,.bool busy,I nc,I nt,I nk,I na,I no,I nn,plan,I se,I sn,.bool up,I pause,I falls,.slice cl cls.length cc] rfl (fun b0 w1_ M1=>?_);have zab:=zmb M1;have c19:=zaa (i:=19) zab.o rfl;replace EW:=zet EW M1;by_cases h0:0<=n
 ·by_cases h1:n < (cls.length:Int)
  ·have hv:BV=true:=by rw [<- HBV.o,decide_eq_true h0,decide_eq_true h1]; rfl
   subst hv;go_wp2
   go_ret
   first | exact ⟨_,rfl,EW.o,rfl⟩ | exact ⟨rfl,EW.o⟩ | (refine ⟨?_,EW.o⟩; simp; omega) | (refine ⟨?_,EW.o⟩; simp <;> omega)
  ·have hv:BV=false:=by rw [<- HBV.o,decide_eq_true h0,decide_eq_false h1]; rfl
   subst hv;go_wp2
   go_ret
   first | exact ⟨_,rfl,EW.o,rfl⟩ | exact ⟨rfl,EW.o⟩ | (refine ⟨?_,EW.o⟩; simp; omega) | (refine ⟨?_,EW.o⟩; simp <;> omega)
 ·have hv:BV=false:=by rw [<- HBV.o,decide_eq_false h0]; rfl
  subst hv;go_wp2
  go_ret
  first | exact ⟨_,rfl,EW.o,rfl⟩ | exact ⟨rfl,EW.o⟩ | (refine ⟨?_,EW.o⟩; simp; omega) | (refine ⟨?_,EW.o⟩; simp <;> omega)

open Go.RowKit Go.Mk

structure GoodC (c:Cn):Prop where
 at0:0<=c.at_
 at1:c.at_<=900
 calls:c.calls.length<=8/\∀ x ∈ c.calls,wrongCl x=0
 got:c.got.length<=900
 box:c.box.length<=900
 bytes:∀ b ∈ c.box,b.length<=140737488355328

def zrI:Prop:=∀ (c:Cn) (calls box got:Value) (me gen:Int) (up:Bool) (w:World) (A:Nat->Prop),Rd A (fun w=>zar 4 zdk w calls c.calls) w->Rd A (fun w=>zar 1 zb0 w box c.box) w->Rd A (fun w=>zar 2 zdY w got c.got) w->GoodC c->0<=me->me<=2 ->
 zaQ Tryz.prog 69 #[.agg #[calls,I c.at_,.bool c.sent,I c.gen,box,got],I me,I gen,.bool up] w A (fun r w'=>zll zcx (zcM c me gen up).1 (zcM c me gen up).2.1 (zcM c me gen up).2.2 r w')

theorem zlY {l:List (List Cl)} (hl:zbD l) {m:Mc} {ks:List Nat} {bz:Option Nat} (h:MInv l m ks bz) {k:Nat} (hs:SizeM m k) (hk:k<=800):∀ c ∈ m.clients,GoodC c/\c.box.length<=1:=fun c hc=>by
 obtain ⟨i,hi⟩:=List.mem_iff_getElem?.1 hc
 have hci:=h.clients i c hi
 have h6:=hs.each c hc
 have hat:=hci.at_
 have hb:c.box.length<=1/\∀ b ∈ c.box,b.length<=140737488355328:=by
  cases hci.phase with
  | rest _ _ _ e _=>rw [e]; exact ⟨Nat.zero_le _,fun b hb=>by cases hb⟩
  | wait _ _ _ _ e _=>rw [e]; exact ⟨Nat.zero_le _,fun b hb=>by cases hb⟩
  | work _ _ _ _ e _ _=>rw [e]; exact ⟨Nat.zero_le _,fun b hb=>by cases hb⟩
  | lost _ _ _ e _ _=>rw [e]; exact ⟨Nat.zero_le _,fun b hb=>by cases hb⟩
  | hear _ _ _ _ e =>
   rw [e]
   refine ⟨Nat.le_refl _,fun b hb=>?_⟩
   rw [List.mem_singleton.1 hb]
   exact Nat.le_trans (Nat.le_of_eq rfl) (by decide:(8:Nat)<=140737488355328)
 refine ⟨⟨by omega,by omega,?_,by omega,by omega,hb.2⟩,hb.1⟩
 rw [hci.calls,List.getD_eq_getElem?_getD]
 cases e:l[i]? with
 | none=>exact ⟨Nat.zero_le _,fun x hx=>by cases hx⟩
 | some y=>exact hl.2 y (List.mem_of_getElem? e)
open Go.RowKit Go.Mk

theorem GoodC.small {c:Cn} (h:GoodC c):zkT c:=⟨by have:=h.calls.1; omega,by have:=h.box; omega,h.bytes,by have:=h.got; omega⟩

theorem znM (v:Value) (xs:List UInt8) (w:World) (hv:zbb w v xs) (hr:xs.length<=140737488355328) :
  zaU Tryz.prog 109 #[v] w fun r w'=>w'.ownsRow w.heap.size 5 1 r xs.length (xs.map U):=by
 unfold zaU;obtain ⟨i0,hi,hz0,hz1,hz2⟩:=info_parts Tryz.infoByte;have HV:=zhd hv;obtain ⟨hlen,ao,cap,rfl,h1,h2,h0,h3⟩:=hv;clear hlen h2 h3;cases ao with
 | none =>
  have hc:=h0 rfl;subst hc;obtain rfl:xs=[]:=List.eq_nil_of_length_eq_zero (by omega);clear h0 h1 hi hz0 hz1 hz2;have qn:∀ w:World,(binOp .eql 78 (.slice none 0 0) (.slice none 0 0)).run Tryz.prog w=.ok (.bool true) w:=fun w=>run_eql_nil_slice w 78 5 none 0 0 0 0 zhQ;go_enter Tryz.func109,Tryz.ntmps109
  go_wp2
  go_ret
  exact ⟨_,rfl,Ext.refl _,World.ownsRow_nil _ _ _ _⟩
 | some ad =>
  clear h0 h1;have HI:=zhd hi;clear hi
  have qn:∀ w:World,(binOp .eql 78 (.slice (some ad) xs.length cap) (.slice none 0 0)).run Tryz.prog w=.ok (.bool false) w:=fun w=>by
   simp only [binOp];simp [Op.equal,Op.maxDepth,Lib.run_equalIn_slice_nil w 9999 78 5 (some ad) xs.length cap 0 0 zhQ]
  go_enter Tryz.func109,Tryz.ntmps109
  go_wp2_with (at_builtin; refine zbw ?_)
  unfold Hid;refine zeK rfl (.tmp 5) (.tmp 6) 78 rfl w.heap.size 5 i0 (.int .u8 0) 1 1 zhQ HI.o hz0 hz1 hz2 rfl (by decide) _ 0 [] rfl (zft #[] 0 (Nat.le_refl _) (by decide) rfl) (.slice (some ad) xs.length cap) rfl xs.length (xs.map U) (HV.o.ext ((Ext.refl w).alloc _)) (fun u hu=>by obtain ⟨x,_,rfl⟩:=List.mem_map.1 hu; rfl) (by omega) (by decide) (by simp) ?_;intro v7 w2 ho e2;simp only [Nat.zero_add,List.nil_append] at ho;go_wp2
  go_ret
  exact ⟨_,rfl,((Ext.refl w).alloc _).trans e2,ho⟩

theorem OwnCn.rd {base s:Nat} {w:World} {calls box got:Value} {c:Cn} {A:Nat->Prop} (h:OwnCn base w calls box got c) (hs:s<=base):Rd (fun k=>A k∨s<=k) (fun w=>zcx w [calls,I c.at_,.bool c.sent,I c.gen,box,got] c) w :=
 zcN (c:=c) ((zjD h.calls).widen fun _ _ h=>.inr (Nat.le_trans hs h)) (h.box.rd fun _ h _=>.inr (Nat.le_trans hs h)) ((zgq h.got).widen fun _ _ h=>.inr (Nat.le_trans hs h))

theorem zlx (c:Cn) (calls box got bv:Value) (b:List UInt8) (w:World) (A:Nat->Prop) (hc:Rd A (fun w=>zar 4 zdk w calls c.calls) w) (hb:Rd A (fun w=>zar 1 zb0 w box c.box) w) (hg:Rd A (fun w=>zar 2 zdY w got c.got) w) (hv:Rd A (fun w=>zbb w bv b) w) (hgd:GoodC c) (hbl:b.length<=140737488355328) :
  zaQ Tryz.prog 93 #[.agg #[calls,I c.at_,.bool c.sent,I c.gen,box,got],bv] w A (fun r w'=>Agg zcx (zcu c b) r w'):=by
 unfold zaQ;have HS:=zhd hgd.small;have HBX:=zhd hgd.box;have HBL:=zhd hbl;clear hgd hbl;obtain ⟨xa,xc,rfl⟩:=zaf hb.o;obtain ⟨ka,kc,rfl⟩:=zaf hc.o;obtain ⟨ga,gc,rfl⟩:=zaf hg.o;obtain ⟨va,vc,rfl⟩:=zao hv.o;have H1:=zhd hc.o;have H2:=zhd hb.o;have H3:=zhd hg.o;have HV:=zhd hv.o;clear hb hc hg hv;have EW:=zhd (Ext.refl w);obtain ⟨i0,hi,hz0,hz1,hz2⟩:=info_parts Tryz.infoBs;have HI:=zhd hi;clear hi;have hX:zcu c b=if c.box.length < 3 then { c with box:=c.box++[b] } else c:=rfl;rw [hX];clear hX;by_cases h3:c.box.length < 3
 case neg =>
  rw [if_neg h3];have h3i:¬ ((c.box.length:Int) < 3):=by omega
  clear h3;go_enter Tryz.func93,Tryz.ntmps93
  go_wp2_with (with_reducible refine zT ?_)
  refine zaj rfl 63 (.tmp 0) rfl #[.slice ka c.calls.length kc,I c.at_,.bool c.sent,I c.gen,.slice xa c.box.length xc,.slice ga c.got.length gc] rfl (fun b0 w1_ M1=>?_);have zab:=zmb M1;have zbr:Hid (w.heap.size<=b0):=by unfold Hid; have q:=M1.o.at_; omega
  go_wp2_with (with_reducible refine zT ?_)
  refine zae rfl 63 zC (by kernel_rfl) (fun b1 w2_ M2=>?_);have zay:=zld zab M2;have zad:=zmb M2;have za4:Hid (w.heap.size<=b1):=by unfold Hid; have q:=zay.o; have q2:=zbr.o; omega
  go_wp2_with (with_reducible refine zT ?_)
  replace zab:=zmo M2 zab;refine zah rfl 63 (.tmp 2) rfl b0 rfl zab zbG zbF (fun v6 H_v6=>?_);go_wp2_with fail
  rw [show _=Value.agg #[.slice ka c.calls.length kc,I c.at_,.bool c.sent,I c.gen,.slice xa c.box.length xc,.slice ga c.got.length gc] from H_v6.o];clear H_v6;replace EW:=zet (zet EW M1) M2;refine (zc3 c _ _ _ w2_ (H1.o.ext zdA EW.o) (H2.o.ext zcX EW.o) (H3.o.ext zeJ EW.o) HS.o).to fun r wo eo hr=>?_;obtain ⟨kg,xg,gg,rfl,ho⟩:=hr;have OPa:=zhd (zbe (b2:=w.heap.size) ho.calls EW.o.size);have OB:=zhd (ho.box.low (b2:=w.heap.size) EW.o.size);have OPg:=zhd (zbe (b2:=w.heap.size) ho.got EW.o.size);clear ho;replace zab:=zbx zab eo;replace zad:=zbx zad eo;replace EW:=zhd (EW.o.trans eo);clear eo;go_wp2_with (with_reducible refine zT ?_)
  refine zae rfl 63 zC (by kernel_rfl) (fun b2 w3_ M3=>?_);have za2:=zld zab M3;have zaJ:=zld zad M3;have zal:=zmb M3;have zbu:Hid (w.heap.size<=b2):=by unfold Hid; have q:=za2.o; have q2:=zbr.o; omega
  go_wp2_with (with_reducible refine zT ?_)
  refine zac rfl 63 (.tmp 5) (.tmp 7) rfl b2 rfl [.slice (some ⟨kg,0,none⟩) c.calls.length c.calls.length,I c.at_,.bool c.sent,I c.gen,.slice (some ⟨xg,0,none⟩) c.box.length c.box.length,.slice (some ⟨gg,0,none⟩) c.got.length c.got.length] (rfl) zal rfl zbF rfl (fun w4_ M4=>?_);replace OPa:=zhd (zak OPa.o M3.o.ext);replace OPa:=zhd (OPa.o.kept M4.o.grown (.inr (za5 OPa.o zal.o (by decide))));replace OPg:=zhd (zak OPg.o M3.o.ext);replace OPg:=zhd (OPg.o.kept M4.o.grown (.inr (za5 OPg.o zal.o (by decide))));replace OB:=zhd ((zhd (OB.o.ext M3.o.ext)).o.kept M4.o.grown zal.o (by decide) (by decide));replace zal:=zwb M4;replace zab:=zwl M4 (zmo M3 zab) za2;have c4:=zaa (i:=4) zab.o rfl;go_wp2_with (with_reducible refine zT ?_)
  clear c4 h3i;refine zah rfl 63 (.tmp 5) rfl b2 rfl zal zbG zbF (fun v19 H_v19=>?_);go_wp2_with (with_reducible refine zT ?_)
  replace zad:=zwl M4 (zmo M3 zad) zaJ;refine zac rfl 63 (.tmp 4) (.tmp 19) rfl b1 rfl _ (zcv H_v19) zad rfl zbF rfl (fun w5_ M5=>?_);replace OPa:=zhd (OPa.o.kept M5.o.grown (.inr (za5 OPa.o zad.o (by decide))));replace OPg:=zhd (OPg.o.kept M5.o.grown (.inr (za5 OPg.o zad.o (by decide))));replace OB:=zhd (OB.o.kept M5.o.grown zad.o (by decide) (by decide));replace zad:=zwb M5;go_wp2
  have z0:=zaq (P:=Tryz.prog) 63 zad.o zbG (by kernel_rfl);refine bodyPost_ret (by simp [results,Tryz.results93,asAddr,z0,Act.put]; rfl) rfl ?_;replace EW:=zwe M5 (zwe M4 (zet EW M3) zbu) za4;exact ⟨_,rfl,EW.o,zbT ((⟨OPa.o,OB.o,OPg.o⟩:OwnCn _ _ _ _ _ _).rd (Nat.le_refl _))⟩
 rw [if_pos h3];have h3i:(c.box.length:Int) < 3:=by omega
 clear h3;go_enter Tryz.func93,Tryz.ntmps93
 go_wp2_with (with_reducible refine zT ?_)
 refine zaj rfl 63 (.tmp 0) rfl #[.slice ka c.calls.length kc,I c.at_,.bool c.sent,I c.gen,.slice xa c.box.length xc,.slice ga c.got.length gc] rfl (fun b0 w1_ M1=>?_);have zab:=zmb M1;have zbr:Hid (w.heap.size<=b0):=by unfold Hid; have q:=M1.o.at_; omega
 go_wp2_with (with_reducible refine zT ?_)
 refine zae rfl 63 zC (by kernel_rfl) (fun b1 w2_ M2=>?_);have zay:=zld zab M2;have zad:=zmb M2;have za4:Hid (w.heap.size<=b1):=by unfold Hid; have q:=zay.o; have q2:=zbr.o; omega
 go_wp2_with (with_reducible refine zT ?_)
 replace zab:=zmo M2 zab;refine zah rfl 63 (.tmp 2) rfl b0 rfl zab zbG zbF (fun v6 H_v6=>?_);go_wp2_with fail
 rw [show _=Value.agg #[.slice ka c.calls.length kc,I c.at_,.bool c.sent,I c.gen,.slice xa c.box.length xc,.slice ga c.got.length gc] from H_v6.o];clear H_v6;replace EW:=zet (zet EW M1) M2;refine (zc3 c _ _ _ w2_ (H1.o.ext zdA EW.o) (H2.o.ext zcX EW.o) (H3.o.ext zeJ EW.o) HS.o).to fun r wo eo hr=>?_;obtain ⟨kg,xg,gg,rfl,ho⟩:=hr;have OPa:=zhd (zbe (b2:=w.heap.size) ho.calls EW.o.size);have OB:=zhd (ho.box.low (b2:=w.heap.size) EW.o.size);have OPg:=zhd (zbe (b2:=w.heap.size) ho.got EW.o.size);clear ho;replace zab:=zbx zab eo;replace zad:=zbx zad eo;replace EW:=zhd (EW.o.trans eo);clear eo;go_wp2_with (with_reducible refine zT ?_)
 refine zae rfl 63 zC (by kernel_rfl) (fun b2 w3_ M3=>?_);have za2:=zld zab M3;have zaJ:=zld zad M3;have zal:=zmb M3;have zbu:Hid (w.heap.size<=b2):=by unfold Hid; have q:=za2.o; have q2:=zbr.o; omega
 go_wp2_with (with_reducible refine zT ?_)
 refine zac rfl 63 (.tmp 5) (.tmp 7) rfl b2 rfl [.slice (some ⟨kg,0,none⟩) c.calls.length c.calls.length,I c.at_,.bool c.sent,I c.gen,.slice (some ⟨xg,0,none⟩) c.box.length c.box.length,.slice (some ⟨gg,0,none⟩) c.got.length c.got.length] (rfl) zal rfl zbF rfl (fun w4_ M4=>?_);replace OPa:=zhd (zak OPa.o M3.o.ext);replace OPa:=zhd (OPa.o.kept M4.o.grown (.inr (za5 OPa.o zal.o (by decide))));replace OPg:=zhd (zak OPg.o M3.o.ext);replace OPg:=zhd (OPg.o.kept M4.o.grown (.inr (za5 OPg.o zal.o (by decide))));replace OB:=zhd ((zhd (OB.o.ext M3.o.ext)).o.kept M4.o.grown zal.o (by decide) (by decide));replace zal:=zwb M4;replace zab:=zwl M4 (zmo M3 zab) za2;have c4:=zaa (i:=4) zab.o rfl;go_wp2_with fail
 clear c4 h3i;have c1:=zaa (i:=4) zal.o rfl;have hcw:=c1;replace zad:=zwl M4 (zmo M3 zad) zaJ;replace EW:=zwe M4 (zet EW M3) zbu;refine zan 7 [none,none,none,some (.inr (fun r wx=>wx.ownsRow w.heap.size 5 1 r b.length (b.map U))),some (.inr (fun r wx=>∃ ev,Row wx 1 r 1 [ev]/\ev.oneCell'=true/\wx.ownsRow w.heap.size 5 1 ev b.length (b.map U))),some (.inr (fun r wx=>zc4 w.heap.size wx r (c.box++[b]))),none] (by kernel_rfl) (by kernel_rfl) ?_ ?_
 ·exact ⟨trivial,trivial,trivial,zcb _ _ _ _ _,fun _ _ _ he ⟨ev,h1,h2,h3⟩=>⟨ev,h1.ext he,h2,zak h3 he⟩,ziO _ _,trivial,trivial⟩
 (refine zap (fun K hK=>?_); go_simp; first | refine hK _ ?_ | refine ⟨(fun h=>by cases h),hK _ ?_⟩; clear hK K)
 refine zav (.slice (some ⟨xg,0,none⟩) c.box.length c.box.length) rfl (fun w' hw'=>by have q0:=hw'.cell hcw; go_simp) ?_;refine zai fun K h=>?_; go_simp; refine h _ ?_; clear h K;(refine zap (fun K hK=>?_); go_simp; first | refine hK _ ?_ | refine ⟨(fun h=>by cases h),hK _ ?_⟩; clear hK K)
 refine za9 _ rfl (fun w' hw' hk=>?_) (fun v15=>?_)
 ·have hg:=(znM _ b w' (HV.o.ext (EW.o.trans hw')) HBL.o).mono (fun r wx _ h=>zbe (b2:=w.heap.size) h (Nat.le_trans EW.o.size hw'.size));clear hk;unfold zaL;go_simp
  exact ⟨Ext.refl _,hg⟩
 refine zai fun K h=>?_; go_simp; refine h _ ?_; clear h K;refine za9 _ rfl (fun w' hw' hk=>?_) (fun v16=>?_)
 ·have h17:w'.ownsRow w.heap.size 5 1 v15 b.length (b.map U):=hk 15 (by decide);obtain ⟨ea,ec,rfl⟩:=za0 h17;clear hk;unfold zaL;go_simp
  exact ⟨(Ext.refl _).alloc _,_,Row.of_owns (World.ownsRow_lit (base:=0) (size:=1) w' _ 1 (Nat.zero_le _) (by decide) rfl),rfl,h17.alloc _⟩
 refine zai fun K h=>?_; go_simp; refine h _ ?_; clear h K;refine za9 _ rfl (fun w' hw' hk=>?_) (fun v17=>?_)
 ·obtain ⟨ev,h1,h2,h3⟩:∃ ev,Row w' 1 v16 1 [ev]/\ev.oneCell'=true/\w'.ownsRow w.heap.size 5 1 ev b.length (b.map U):=hk 16 (by decide);obtain ⟨evs,hl,hr1,hr2⟩:=(OB.o.ext hw').list;obtain ⟨vv,ww,hrun,hoo,hee⟩:=zbY (P:=Tryz.prog) w' w.heap.size 32 32 78 i0 _ 1 24 znc HI.o hz0 hz1 hz2 rfl (by decide) (.slice (some ⟨xg,0,none⟩) c.box.length c.box.length) c.box.length evs ⟨xg,rfl,hr1⟩ v16 1 [ev] h1 (fun u hu=>by rw [List.mem_singleton.1 hu]; exact h2) (by have:=HBX.o; omega) (by decide) (Nat.le_trans EW.o.size hw'.size);exact zcY rfl rfl rfl hrun hee (zc4.snoc (fun i x hx=>by obtain ⟨e2,q1,q2⟩:=hr2 i x hx; exact ⟨e2,q1,zak q2 hee⟩) hl hoo (zak h3 hee))
 refine zai fun K h=>?_; go_simp; refine h _ ?_; clear h K;(refine zap (fun K hK=>?_); go_simp; first | refine hK _ ?_ | refine ⟨(fun h=>by cases h),hK _ ?_⟩; clear hK K)
 refine zaM ?_;intro w5 e5 hF;have ob:zc4 w.heap.size w5 v17 (c.box++[b]):=hF 17;obtain ⟨na,nc,en⟩:=ob.slice;rw [show (c.box++[b]).length=c.box.length+1 by simp] at en;subst en;have OC:=zhd ob;clear hF ob hcw c1;replace zab:=zbx zab e5;replace zad:=zbx zad e5;replace zal:=zbx zal e5;replace OPa:=zhd (zak OPa.o e5);replace OB:=zhd (OB.o.ext e5);replace OPg:=zhd (zak OPg.o e5);replace EW:=zhd (EW.o.trans e5);clear e5;refine zeb ?_;refine zam rfl 32 (.tmp 18) (.tmp 17) rfl b2 4 rfl [.slice na (c.box.length+1) nc] (rfl) zal rfl zkP rfl [.slice (some ⟨kg,0,none⟩) c.calls.length c.calls.length,I c.at_,.bool c.sent,I c.gen,.slice na (c.box.length+1) nc,.slice (some ⟨gg,0,none⟩) c.got.length c.got.length] rfl (fun w5_ M5=>?_);replace OPa:=zhd (OPa.o.kept M5.o.grown (.inr (za5 OPa.o zal.o (by decide))));replace OPg:=zhd (OPg.o.kept M5.o.grown (.inr (za5 OPg.o zal.o (by decide))));replace OB:=zhd (OB.o.kept M5.o.grown zal.o (by decide) (by decide));replace OC:=zhd (OC.o.kept M5.o.grown zal.o (by decide) (by decide));replace zal:=zwb M5;go_wp2_with (with_reducible refine zT ?_)
 refine zah rfl 63 (.tmp 5) rfl b2 rfl zal zbG zbF (fun v19 H_v19=>?_);go_wp2_with (with_reducible refine zT ?_)
 replace zad:=zwl M5 zad zaJ;refine zac rfl 63 (.tmp 4) (.tmp 19) rfl b1 rfl _ (zcv H_v19) zad rfl zbF rfl (fun w6_ M6=>?_);replace OPa:=zhd (OPa.o.kept M6.o.grown (.inr (za5 OPa.o zad.o (by decide))));replace OPg:=zhd (OPg.o.kept M6.o.grown (.inr (za5 OPg.o zad.o (by decide))));replace OB:=zhd (OB.o.kept M6.o.grown zad.o (by decide) (by decide));replace OC:=zhd (OC.o.kept M6.o.grown zad.o (by decide) (by decide));replace zad:=zwb M6;go_wp2
 have z0:=zaq (P:=Tryz.prog) 63 zad.o zbG (by kernel_rfl);refine bodyPost_ret (by simp [results,Tryz.results93,asAddr,z0,Act.put]; rfl) rfl ?_;replace EW:=zwe M6 (zwe M5 EW zbu) za4;exact ⟨_,rfl,EW.o,zbT ((⟨OPa.o,OC.o,OPg.o⟩:OwnCn _ _ _ _ _ { c with box:=c.box++[b] }).rd (Nat.le_refl _))⟩

open Go.RowKit Go.Mk

theorem zen (v:Value) (n:Int) (w:World) :
  Calls Tryz.prog 143 #[v,I n] w fun e w'=>e=.returned (.tuple #[v,.agg #[I 0,I n]])/\Ext w w':=by
 go_enter Tryz.func143,Tryz.ntmps143
 go_wp2
 go_returns
 exact ⟨rfl,(Ext.refl w).alloc _⟩

theorem zeL (v:Value) (n:Int) (w:World) :
  Calls Tryz.prog 141 #[v,I n] w fun e w'=>e=.returned (.tuple #[v,.agg #[I n,I 0]])/\Ext w w':=by
 go_enter Tryz.func141,Tryz.ntmps141
 go_wp2
 go_returns
 exact ⟨rfl,(Ext.refl w).alloc _⟩

def zeB (l:List (Int×Int)) (name:Int):Int:=if at1 l name < l.length then (at1 l name:Int) else -1

theorem zeG (v:Value) (l:List (Int×Int)) (name:Int) (w:World) (hv:zax w v l) :
  Calls Tryz.prog 145 #[v,I name] w fun e w'=>e=.returned (I (zeB l name))/\Ext w w':=by
 obtain ⟨ao,cap,rfl,h1,h2,h3⟩:=hv.form;unfold maxLen at h2;clear hv;go_enter Tryz.func145,Tryz.ntmps145
 go_wp2
 go_loopw [9] (fun i wr=>∃ k:Nat,k<=l.length/\i=I k/\(∀ j,j < k->(l.getD j (0,0)).1≠name)/\Ext w wr) (fun i _=>l.length - (intOf i).toNat)
 case atStart=>exact ⟨0,by omega,rfl,fun j hj=>by omega,Ext.refl w⟩
 case round =>
  obtain ⟨k,hk,rfl,hf,he⟩:=hrel;have HF:Hid (∀ j,j < k->(l.getD j (0,0)).1≠name):=hf;clear hf;by_cases hlt:k < l.length
  ·obtain ⟨b,off,rfl,hc1,hc2⟩:=h3 k hlt;clear h3;have hd1:=he.cell hc1;have hd2:=he.cell hc2;clear hc1 hc2;generalize hp:l.getD k (0,0)=p at hd1 hd2;have HP:Hid (l.getD k (0,0)=p):=hp;clear hp;obtain ⟨at_,n⟩:=p;simp only [] at hd1 hd2;by_cases hn:at_=name
   ·have hb:(at_ == name)=true:=by simp [hn]
    have HN:Hid (at_=name):=hn;clear hn;go_wp2
    go_ret
    refine ⟨zej ?_,he.alloc _⟩;have:=zjl hlt (by rw [HP.o]; exact HN.o) HF.o;unfold zeB;rw [this,if_pos hlt]
   ·have hb:(at_ == name)=false:=by simpa using hn
    have HN:Hid (at_≠name):=hn;clear hn;go_wp2
    go_roundw
    case rel =>
     refine ⟨k+1,by omega,by go_num,fun j hj=>?_,he.alloc _⟩;by_cases hjk:j < k
     ·exact HF.o j hjk
     ·rw [show j=k by omega,HP.o]; exact HN.o
    case measure=>simp [intOf]; omega
  ·go_wp2
   go_ret
   refine ⟨zej ?_,he⟩;have:=zgh (l:=l) (name:=name) (fun j hj=>HF.o j (by omega));unfold zeB;rw [if_neg (by omega)]

theorem zjT {P:Program} (w:World) (t ty e:TypeId) (hu:P.underlying t=some (.slice e)) (hsz:(P.info? e).map (·.size)=some 2) (base g n:Nat) (v:Value) (cs old:List Value)
  (hown:w.ownsRow base e 2 (.slice (some ⟨g,0,none⟩) n n) n old) (hv:Row w 2 v n cs) (h1:∀ u ∈ cs,u.oneCell'=true) :
  ∃ w',(Builtin.copy_ #[t,t] ty #[.slice (some ⟨g,0,none⟩) n n,v]).run P w=.ok (goInt n) w'/\w'.ownsRow base e 2 (.slice (some ⟨g,0,none⟩) n n) n cs/\w.grownBy w' (some g):=by
 obtain ⟨hl,ao,cap,rfl,hc,hm,_,hcell⟩:=hv
 obtain ⟨ho,ho'⟩:=hown
 rcases ho' with ⟨h,_⟩ | ⟨g',cap',cur,h,hb,hg,hn,hm',hs,ht⟩
 ·simp at h
 simp only [Value.slice.injEq,Option.some.injEq,Addr.mk.injEq,and_true,true_and] at h
 obtain ⟨rfl,rfl⟩:=h
 cases hq:P.info? e with
 | none=>simp [hq] at hsz
 | some i =>
 have hi:i.size=2:=by simpa [hq] using hsz
 by_cases h0:n=0
 ·subst h0
  have:cs=[]:=List.eq_nil_of_length_eq_zero (by simpa using hl)
  subst this
  refine ⟨w,?_,⟨rfl,.inr ⟨g,0,cur,rfl,hb,hg,Nat.le_refl _,hm',by simpa using hs,by simp⟩⟩,World.grownBy.refl _ _⟩
  cases ao <;> simp [Builtin.copy_,run_underlying hu,Builtin.lenOf,Builtin.firstCells,sizeOf,typeInfo,hq,storeCells,loadCells,loadCellsFrom]
 ·have hne:cs≠[]:=by intro e; subst e; simp at hl; omega
  obtain ⟨c0,hc0⟩:∃ c,cs[0]?=some c:=by cases cs with | nil=>exact absurd rfl hne | cons c _=>exact ⟨c,rfl⟩
  obtain ⟨b,off,rfl,_⟩:=hcell 0 c0 hc0
  have hload:=run_loadCells_list (P:=P) w ⟨b,off,none⟩ cs (fun j u hj=>by
   obtain ⟨b',off',e',hc'⟩:=hcell j u hj
   simp only [Option.some.injEq,Addr.mk.injEq,and_true] at e'
   obtain ⟨rfl,rfl⟩:=e'
   rw [add_plain]; exact hc')
  have hst:=run_storeCells_at P g 0 e cs 0 cur w hg (by simp; omega) h1
  rw [hl] at hload
  refine ⟨_,by simp [Builtin.copy_,run_underlying hu,Builtin.lenOf,Builtin.firstCells,sizeOf,typeInfo,hq,hi,hload,hst]; rfl,⟨hl,.inr ⟨g,n,_,rfl,hb,setRow_heap w g cur _ e _ hg,Nat.le_refl _,hm',?_,?_⟩⟩,⟨rfl,rfl,rfl,by simp [World.setRow],fun k _ hk=>setRow_other w g k _ (fun e=>hk (by simp [e]))⟩⟩
  ·simp; omega
  ·simp [<- hl]

open Go.RowKit Go.Mk

theorem zpk (v:Value) (l:List (Int×Int)) (w:World) (hv:zax w v l) (hr:l.length * 16<=140737488355328) :
  Calls Tryz.prog 124 #[v] w fun e w'=>e=.returned (.slice (some ⟨w.heap.size,0,none⟩) l.length l.length)/\w'.ownsRow w.heap.size 91 2 (.slice (some ⟨w.heap.size,0,none⟩) l.length l.length) l.length (zaA l)/\Ext w w':=by
 obtain ⟨i0,hi,hz0,hz1,hz2⟩:=info_parts Tryz.infoWrite2;obtain ⟨hlen,ao,cap,rfl,h1,h2,h0,h3⟩:=hv;unfold maxLen at h2;go_enter Tryz.func124,Tryz.ntmps124
 go_wp2_with (at_make; refine wpList_make_full _ rfl _ _ 27 rfl w.heap.size 91 i0 (.agg #[.int .i64 0,.int .i64 0]) 2 zfq hi hz0 hz1 .i64 .i64 _ _ l.length rfl rfl rfl rfl (by rw [hz2]; omega) (by unfold maxLen; omega) (Nat.le_refl _) ?_; intro w1 hown hgrow)
 have he1:Ext w w1:=(Ext.refl w).grown hgrow (fun k hk=>by cases hk);obtain ⟨w2,hrun,hown2,hgrow2⟩:=zjT (P:=Tryz.prog) w1 27 3 91 zfq Tryz.infoWriteSz w.heap.size w.heap.size l.length _ (zaA l) _ hown (Row.ext ⟨hlen,ao,cap,rfl,h1,h2,h0,h3⟩ he1) (zbz l);have he2:Ext w w2:=he1.grown hgrow2 (fun k hk=>by cases hk; exact Nat.le_refl _);rw [hrun];clear hrun hown hgrow hgrow2 he1 h3;go_wp2
 go_ret
 exact ⟨rfl,hown2,he2⟩

end Go.Proofs.YtdmipnnfoolelaeGreat

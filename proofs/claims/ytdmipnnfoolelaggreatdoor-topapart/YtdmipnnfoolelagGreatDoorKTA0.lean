/- zbb of the proof, merged: Y6. -/
import Derived.Test.YtdmipnnfoolelagGreatDoorKTA
import Derived.Test.YtdmipnnfoolelagGreatDoorKT8
import Derived.Test.YtdmipnnfoolelagGreatDoorKTH
set_option maxHeartbeats 16000000
set_option maxRecDepth 100000

namespace Go.Proofs.YtdmipnnfoolelagGreatDoor
open Go.RowKit Go.Mk

theorem Tryz.infoCallY:(Tryz.prog.info? 33).map (fun i=>(i.zero,i.size,i.bytes))=some (some (.agg #[I 0,I 0,I 0,I 0]),4,32):=by kernel_rfl
theorem zla (w:World):(zeroValue 4).run Tryz.prog w=.ok (.bool false) w:=by kernel_rfl
def zeF (P:Program) (k e:TypeId) (b n:Nat) (xs:List Int) (w:World):Prop:=w.ownsMap P k (plainElem P e) b n (zgt xs)
theorem zeF.ext {P:Program} {k e:TypeId} {b n:Nat} {xs:List Int} {w w':World} (h:zeF P k e b n xs w) (he:Ext w w'):zeF P k e b n xs w':=zn1 h he
theorem zq7 {w:World} {bm b:Nat} {es:Array MapEntry} {c:Nat} {cs:Array Value} {t:TypeId} (h:w.heap[bm]?=some (.map es c)) (hb:w.heap[b]?=some (.cells cs t (0,0))):b≠bm:=fun e=>by
 rw [e,h] at hb
 cases hb
theorem zeF.kept {P:Program} {k e:TypeId} {bm n:Nat} {xs:List Int} {w w':World} (h:zeF P k e bm n xs w) {b:Nat} {cs:Array Value} {t:TypeId} (hb:w.heap[b]?=some (.cells cs t (0,0))) (hg:w.grownBy w' (some b)):zeF P k e bm n xs w':=by
 obtain ⟨es,c,h1,_⟩:=id h
 exact World.ownsMap.kept h hg (fun e=>zq7 h1 hb (Option.some.inj e).symm)
def zrd:Op->Bool
 | .makeMap ..=>true
 | _=>false
def zto:Op->Bool
 | .lookup ..=>true
 | _=>false
def zuf:Op->Bool
 | .mapUpdate ..=>true
 | _=>false
section
variable {P:Program} {ops:Array Oper} {rest:List Oper} {o:Oper} {a:Act} {w:World} {Q:Exit->Act->World->Prop}
theorem zsm (_:zrd o.op=true) (h:Hid (wpList P ops Q (o::rest) a w)):wpList P ops Q (o::rest) a w:=h
theorem zsl (_:zto o.op=true) (h:Hid (wpList P ops Q (o::rest) a w)):wpList P ops Q (o::rest) a w:=h
theorem zsp (_:zuf o.op=true) (h:Hid (wpList P ops Q (o::rest) a w)):wpList P ops Q (o::rest) a w:=h
theorem zh8 (hg:o.guard=none) (t k e:TypeId) (hop:o.op=.makeMap t none) (h:∀ b w',Hid (zeF P k e b 0 [] w')->Hid (w.heap.size<=b)->Hid (Ext w w')->wpList P ops Q rest (a.put o.dst (.map (some b))) w'):wpList P ops Q (o::rest) a w:=by
 refine wpList_plain hg fun K hK=>?_
 unfold Oper.wp
 simp [execOp,hop,run_makeMap,Result.andThen]
 exact hK _ _ (h _ _ (World.ownsMap_made w P k _) (Nat.le_refl _) ((Ext.refl w).alloc _))
theorem zhj (hg:o.guard=none) (m x:Operand) (t k e:TypeId) (hop:o.op=.lookup t m x false) (hk:P.underlying k=some (.int .i64)) (ht:P.underlying t=some (.map k e)) (he:P.underlying e=some .bool) (hz:(zeroValue e).run P w=.ok (.bool false) w)
  (b n:Nat) (xs:List Int) (hm:a.eval m=.map (some b)) (y:Int) (hx:a.eval x=.int .i64 y) (hy:(Lit.int .i64 y).wf=true) (hs:zeF P k e b n xs w) (h:wpList P ops Q rest (a.put o.dst (.bool (decide (y ∈ xs)))) w):wpList P ops Q (o::rest) a w:=by
 refine wpList_plain hg fun K hK=>?_
 unfold Oper.wp
 simp [execOp,hop,hm,hx,zoe hs hk ht he hz hy,Result.andThen]
 exact hK _ _ h
theorem zeG (hg:o.guard=none) (m x v:Operand) (t k e:TypeId) (hop:o.op=.mapUpdate t m x v) (hk:P.underlying k=some (.int .i64)) (ht:P.underlying t=some (.map k e)) (he:P.underlying e=some .bool)
  (b n:Nat) (xs:List Int) (hm:a.eval m=.map (some b)) (y:Int) (hx:a.eval x=.int .i64 y) (hy:(Lit.int .i64 y).wf=true) (hv:a.eval v=.bool true) (hn:n < maxLen) (hs:zeF P k e b n xs w)
  (h:∀ w',Hid (zeF P k e b (n+1) (xs++[y]) w')->Hid (w.grownBy w' (some b))->wpList P ops Q rest (a.put o.dst undef) w'):wpList P ops Q (o::rest) a w :=
 wpList_mapUpdate_own w hg m x v t hop k e (Maps.int_keyed hk) ht (plainElem P e) b n (zgt xs) hm hs hn (.int .i64 y) (.bool true) (.int .i64 y) hx hv (Maps.keyOf_int_mk hk hy) (.lit (.bool true)) [] (plainElem_bool he true) (fun w' h1 h2=>h w' (by unfold Hid zeF; rw [zqW]; exact h1) h2)
theorem zhk (hg:o.guard=none) (m:Operand) (t k e:TypeId) (hop:o.op=Op.call { callee:=Callee.builtin Builtin.len,args:=#[m],argTypes:=#[t] }) (ht:P.underlying t=some (.map k e))
  (b n:Nat) (xs:List Int) (hm:a.eval m=.map (some b)) (hs:zeF P k e b n xs w) (h:wpList P ops Q rest (a.put o.dst (I (Maps.size (zgt xs):Int))) w):wpList P ops Q (o::rest) a w :=
 wpList_len_own w hg m t hop k e ht (plainElem P e) b n (zgt xs) hm hs h
end
theorem zgN {w:World} {size n:Nat} {v:Value} {cs:List Value} {b:Nat} {es:Array MapEntry} {c:Nat} (h:Row w size v n cs) (hm:w.heap[b]?=some (.map es c)):Rd (fun k=>k < w.heap.size/\k≠b) (fun w=>Row w size v n cs) w:=fun w2 h2=>by
 refine Row.heap h fun j u g off hj ⟨m,cap,e⟩=>?_
 obtain ⟨_,ao,cap2,e2,_,_,_,h5⟩:=id h
 obtain ⟨g2,off2,e3,hc⟩:=h5 j u hj
 rw [e] at e2
 simp only [Value.slice.injEq] at e2
 obtain ⟨e4,-,-⟩:=e2
 rw [<- e4] at e3
 simp only [Option.some.injEq,Addr.mk.injEq,and_true] at e3
 obtain ⟨rfl,rfl⟩:=e3
 have hne:g≠b:=fun q=>by
  subst q
  simp [World.cell?,hm] at hc
 exact h2 g ⟨zff hc,hne⟩ (zff hc)
theorem zeF.map {P:Program} {k e:TypeId} {b n:Nat} {xs:List Int} {w:World} (h:zeF P k e b n xs w):∃ es c,w.heap[b]?=some (.map es c):=by
 obtain ⟨es,c,h1,_⟩:=h
 exact ⟨es,c,h1⟩

def zbo (k n:Nat):List Cl:=(List.range n).map (zd1 k)
theorem zns {k i:Nat} (hk:k < 2) (hi:i < 8):wrongCl (zd1 k i)=0:=by
 have h1:k=0∨k=1:=by omega
 rcases h1 with rfl | rfl
 all_goals
  unfold wrongCl zd1
  simp
  omega
theorem zcn {k n:Nat} (hk:k < 2) (hn:n<=8):∀ c ∈ zbo k n,wrongCl c=0:=fun c hc=>by
 obtain ⟨i,hi,rfl⟩:=List.mem_map.1 hc
 exact zns hk (by have:=List.mem_range.1 hi; omega)
theorem znL {n m:Nat} (hn:n<=8) (hm:m<=8):zaG (zck n m):=by
 refine ⟨by unfold zck; simp,fun c hc=>?_⟩
 unfold zck at hc
 rcases List.mem_cons.1 hc with rfl | hc
 ·exact ⟨by simp; omega,zcn (k:=0) (by decide) hn⟩
 ·rw [List.mem_singleton.1 hc]
  exact ⟨by simp; omega,zcn (k:=1) (by decide) hm⟩
theorem zoO {n m:Nat} (hn:n<=8) (hm:m<=8) (h1:(printCl (zbo 0 n)).length<=100000) (h2:(printCl (zbo 1 m)).length<=100000):zbb [printCl (zbo 0 n),printCl (zbo 1 m)] (zck n m):=by
 refine ⟨rfl,fun i s hs=>?_⟩
 match i,hs with
 | 0,hs=>cases hs; exact ⟨h1,zdz (l:=zbo 0 n) rfl (zcn (by decide) hn) (by unfold zbo; simp; omega)⟩
 | 1,hs=>cases hs; exact ⟨h2,zdz (l:=zbo 1 m) rfl (zcn (by decide) hm) (by unfold zbo; simp; omega)⟩
 | i+2,hs=>simp at hs
theorem zrj {ls:List (List Cl)} {S:Mc} (h:FixOk ls S) {i:Nat} {c:Cn} (hc:S.clients[i]?=some c):(zaA S.store.past i).length=(ls.getD i []).length:=by
 obtain ⟨ks,bz,h2⟩:=h.done
 exact (zhq h2 h.idle hc).2.1
theorem zoS {ls:List (List Cl)} {S:Mc} (h:FixOk ls S):((names S.store.past).map Prod.fst).Nodup/\(names S.store.past).length<=5/\∀ x ∈ (names S.store.past).map Prod.fst,1<=x/\x<=255:=by
 obtain ⟨ks,bz,h2⟩:=h.done
 have q:=zfq h.gz.right h2.past
 refine ⟨q.2.2,q.1,fun x hx=>?_⟩
 obtain ⟨p,hp,rfl⟩:=List.mem_map.1 hx
 have:=q.2.1 p hp
 omega
theorem zfT {x:Int} (h:-1000000<=x/\x<=1000000):(Lit.int .i64 x).wf=true:=Go.WalkArith.wf_i64 (by omega)

theorem zol {TV:World->Prop} (hText:TextOk TV) (hPlay:zfL) (hSettle:zdS) (hNow:zpu) (hIdle:zfN) (v2:Value) (n m:Int) (steps:List (Int×Int)) (w:World) (hTV:TV w) (h1:zar w v2 steps) :
  zaw Tryz.prog 5 #[I n,I m,v2] w fun r _=>r=.bool true:=by
 refine zcP ?_;have HSTP:=zhd h1;obtain ⟨ta,tc,rfl⟩:=zao h1;clear h1;have HTX:=zhd hText;have HPL:=zhd hPlay;have HSE:=zhd hSettle;have HNO:=zhd hNow;have HIO:=zhd hIdle;have HTV:=zhd hTV;clear hText hPlay hSettle hNow hIdle hTV;have EW:=zhd (Ext.refl w);obtain ⟨B,HB0⟩:∃ B:Nat->Prop,Hid (∀ k,B k↔True):=⟨_,fun _=>Iff.rfl⟩;go_enter Tryz.func5,Tryz.ntmps5
 go_wp2_with fail
 refine (zd9 HTX.o HPL.o HSE.o HIO.o w (HTX.o.ext _ _ HTV.o EW.o)).to fun r wl el hr=>?_;subst hr;replace EW:=zhd (EW.o.trans el);clear el;by_cases hg:n < 0
 case pos =>
  have hb:=decide_eq_true hg;go_wp2
  go_ret
  exact ⟨rfl,EW.o⟩
 have hb1:decide (n < 0)=false:=decide_eq_false hg;clear hg;by_cases hg:8 < n
 case pos =>
  have hb:=decide_eq_true hg;go_wp2
  go_ret
  exact ⟨rfl,EW.o⟩
 have hb2:decide (8 < n)=false:=decide_eq_false hg;clear hg;by_cases hg:m < 0
 case pos =>
  have hb:=decide_eq_true hg;go_wp2
  go_ret
  exact ⟨rfl,EW.o⟩
 have hb3:decide (m < 0)=false:=decide_eq_false hg;clear hg;by_cases hg:8 < m
 case pos =>
  have hb:=decide_eq_true hg;go_wp2
  go_ret
  exact ⟨rfl,EW.o⟩
 have hb4:decide (8 < m)=false:=decide_eq_false hg;clear hg;by_cases hg:400 < steps.length
 case pos =>
  have hb:decide ((400:Int) < (steps.length:Int))=true:=decide_eq_true (by omega);go_wp2
  go_ret
  exact ⟨rfl,EW.o⟩
 have hb5:decide ((400:Int) < (steps.length:Int))=false:=decide_eq_false (by omega);have h400:Hid (steps.length<=400):=by unfold Hid; omega
 clear hg;have c1:=of_decide_eq_false hb1;have c2:=of_decide_eq_false hb2;have c3:=of_decide_eq_false hb3;have c4:=of_decide_eq_false hb4;obtain ⟨N,rfl⟩:∃ i:Nat,n=(i:Int):=⟨n.toNat,by omega⟩;obtain ⟨M,rfl⟩:∃ i:Nat,m=(i:Int):=⟨m.toNat,by omega⟩;have HN:Hid (N<=8):=by unfold Hid; omega
 have HM:Hid (M<=8):=by unfold Hid; omega
 obtain ⟨i0,hi,hz0,hz1,hz2⟩:=info_parts Tryz.infoCallY;have HI:=zhd (And.intro hi (And.intro hz0 (And.intro hz1 hz2)));clear c1 c2 c3 c4 hi hz0 hz1 hz2;go_wp2_with fail
 clear hb1 hb2 hb3 hb4 hb5;go_loopw [7,42] (fun lv i wr=>∃ j:Nat,j<=N/\i=I j/\wr.ownsRow wl.heap.size 33 4 lv j (zaR (zbo 0 j))/\Ext wl wr) (fun _ i _=>N - (intOf i).toNat)
 case atStart=>exact ⟨0,Nat.zero_le _,rfl,World.ownsRow_nil _ _ _ _,Ext.refl _⟩
 case round =>
  obtain ⟨j,hj,rfl,ho,hex⟩:=hrel;obtain ⟨la,lc,rfl⟩:=zcR ho;have HOW:=zhd ho;clear ho;by_cases hlt:j < N
  case pos =>
   have HEX:=zhd hex;have HLT:=zhd hlt;have hli:(j:Int) < (N:Int):=by omega
   have hwr:IntKind.i64.wrap (1+(j:Int))=1+(j:Int):=by have q:=HN.o; rw [IntKind.wrap_i64]; omega
   clear hex hlt hj;go_wp2_with (with_reducible refine zT ?_)
   clear hli hwr;refine zbm rfl 33 #[(0,.const (.int .i64 1)),(1,.tmp 47),(3,.tmp 48)] rfl #[I 1,I (1+(j:Int)),I 0,I (j:Int)] (by kernel_rfl) (fun v49 H_v49=>?_);obtain rfl:=H_v49.o;clear H_v49;go_wp2_with (with_reducible refine zT ?_)
   unfold Hid;refine zbe rfl 33 1 #[I 1,I (1+(j:Int)),I 0,I (j:Int)] (by kernel_rfl) (fun bl50 w301_ M301=>?_);skip
   have hcl:zaR [zd1 0 j]=[I 1,I (1+(j:Int)),I 0,I (j:Int)]:=by
    unfold zaR zd1;simp only [List.flatMap_cons,List.flatMap_nil,List.append_nil];rw [show ((1+100 * 0+j:Nat):Int)=1+(j:Int) by omega]
   have hlit:Row w301_ 4 (.slice (some ⟨bl50,0,none⟩) 1 1) 1 (zaR [zd1 0 j]):=by
    rw [hcl];exact Row.of_owns (zbB (base:=0) M301.o (Nat.zero_le _) rfl (by decide))
   obtain ⟨hi,hz0,hz1,hz2⟩:=HI.o;go_wp2_with (first | (at_builtin; refine zb7 ?_) | (with_reducible refine zT ?_))
   unfold Hid;replace HOW:=zhd (zai HOW.o M301.o.ext);replace HEX:=zhd (HEX.o.trans M301.o.ext);refine zaJ _ rfl (.tmp 45) (.tmp 50) 46 rfl wl.heap.size 33 i0 (.agg #[I 0,I 0,I 0,I 0]) 4 32 zof hi hz0 hz1 hz2 rfl (by decide) _ j (zaR (zbo 0 j)) rfl HOW.o _ rfl 1 _ hlit (zgb _) (by have q:=HLT.o; have q2:=HN.o; omega) (by decide) HEX.o.size ?_;intro v51 wz ho hg;have hew:Ext wl wz:=HEX.o.grown hg (fun k hk=>(HOW.o.lt k hk).1)
   have hsn:wz.ownsRow wl.heap.size 33 4 v51 (j+1) (zaR (zbo 0 (j+1))):=by
    have e:zaR (zbo 0 (j+1))=zaR (zbo 0 j)++zaR [zd1 0 j]:=by
     unfold zbo zaR;rw [List.range_succ,List.map_append,List.flatMap_append];rfl
    rw [e];exact ho
   have hkb:j < 2000:=by have q:=HLT.o; have q2:=HN.o; omega
   clear hi hz0 hz1 hz2 hlit hg ho hcl;go_wp2
   go_roundw
   case rel=>exact ⟨j+1,HLT.o,by go_num,hsn,hew⟩
   case measure=>have:=HLT.o; simp [intOf]; omega
  obtain ⟨E2,hE2⟩:∃ x,N=x:=⟨_,rfl⟩;obtain rfl:j=E2:=by omega
  subst hE2
  have OWA:Hid (zaj 4 zbX wr (.slice la N lc) (zbo 0 N)):=by
   have q:=(zfV HOW.o).o;exact q
  obtain ⟨sA,cA,hla⟩:∃ s c,la=s/\lc=c:=⟨_,_,rfl,rfl⟩;obtain ⟨hla1,hla2⟩:=hla;rw [hla1,hla2] at OWA ⊢;have HEX:=zhd hex;clear hlt hj HOW hex hla1 hla2;replace EW:=zhd (EW.o.trans HEX.o);clear HEX;rename World=>wa;go_wp2_with fail
  go_loopw [8,54] (fun lv i wr=>∃ j:Nat,j<=M/\i=I j/\wr.ownsRow wa.heap.size 33 4 lv j (zaR (zbo 1 j))/\Ext wa wr) (fun _ i _=>M - (intOf i).toNat)
  case atStart=>exact ⟨0,Nat.zero_le _,rfl,World.ownsRow_nil _ _ _ _,Ext.refl _⟩
  case round =>
   obtain ⟨j,hj,rfl,ho,hex⟩:=hrel;obtain ⟨la,lc,rfl⟩:=zcR ho;have HOW:=zhd ho;clear ho;by_cases hlt:j < M
   case pos =>
    have HEX:=zhd hex;have HLT:=zhd hlt;have hli:(j:Int) < (M:Int):=by omega
    have hwr:IntKind.i64.wrap (101+(j:Int))=101+(j:Int):=by have q:=HM.o; rw [IntKind.wrap_i64]; omega
    clear hex hlt hj;go_wp2_with (with_reducible refine zT ?_)
    clear hli hwr;refine zbm rfl 33 #[(0,.const (.int .i64 1)),(1,.tmp 59),(3,.tmp 60)] rfl #[I 1,I (101+(j:Int)),I 0,I (j:Int)] (by kernel_rfl) (fun v61 H_v61=>?_);obtain rfl:=H_v61.o;clear H_v61;go_wp2_with (with_reducible refine zT ?_)
    unfold Hid;refine zbe rfl 33 1 #[I 1,I (101+(j:Int)),I 0,I (j:Int)] (by kernel_rfl) (fun bl62 w301_ M301=>?_);skip
    have hcl:zaR [zd1 1 j]=[I 1,I (101+(j:Int)),I 0,I (j:Int)]:=by
     unfold zaR zd1;simp only [List.flatMap_cons,List.flatMap_nil,List.append_nil];rw [show ((1+100 * 1+j:Nat):Int)=101+(j:Int) by omega]
    have hlit:Row w301_ 4 (.slice (some ⟨bl62,0,none⟩) 1 1) 1 (zaR [zd1 1 j]):=by
     rw [hcl];exact Row.of_owns (zbB (base:=0) M301.o (Nat.zero_le _) rfl (by decide))
    obtain ⟨hi,hz0,hz1,hz2⟩:=HI.o;go_wp2_with (first | (at_builtin; refine zb7 ?_) | (with_reducible refine zT ?_))
    unfold Hid;replace HOW:=zhd (zai HOW.o M301.o.ext);replace HEX:=zhd (HEX.o.trans M301.o.ext);refine zaJ _ rfl (.tmp 57) (.tmp 62) 46 rfl wa.heap.size 33 i0 (.agg #[I 0,I 0,I 0,I 0]) 4 32 zof hi hz0 hz1 hz2 rfl (by decide) _ j (zaR (zbo 1 j)) rfl HOW.o _ rfl 1 _ hlit (zgb _) (by have q:=HLT.o; have q2:=HM.o; omega) (by decide) HEX.o.size ?_;intro v63 wz ho hg;have hew:Ext wa wz:=HEX.o.grown hg (fun k hk=>(HOW.o.lt k hk).1)
    have hsn:wz.ownsRow wa.heap.size 33 4 v63 (j+1) (zaR (zbo 1 (j+1))):=by
     have e:zaR (zbo 1 (j+1))=zaR (zbo 1 j)++zaR [zd1 1 j]:=by
      unfold zbo zaR;rw [List.range_succ,List.map_append,List.flatMap_append];rfl
     rw [e];exact ho
    have hkb:j < 2000:=by have q:=HLT.o; have q2:=HM.o; omega
    clear hi hz0 hz1 hz2 hlit hg ho hcl;go_wp2
    go_roundw
    case rel=>exact ⟨j+1,HLT.o,by go_num,hsn,hew⟩
    case measure=>have:=HLT.o; simp [intOf]; omega
   obtain ⟨E2,hE2⟩:∃ x,M=x:=⟨_,rfl⟩;obtain rfl:j=E2:=by omega
   subst hE2
   have OWB:Hid (zaj 4 zbX wr (.slice la M lc) (zbo 1 M)):=by
    have q:=(zfV HOW.o).o;exact q
   obtain ⟨sB,cB,hla⟩:∃ s c,la=s/\lc=c:=⟨_,_,rfl,rfl⟩;obtain ⟨hla1,hla2⟩:=hla;rw [hla1,hla2] at OWB ⊢;have HEX:=zhd hex;clear hlt hj HOW hex hla1 hla2;replace EW:=zhd (EW.o.trans HEX.o);replace OWA:=zhd (OWA.o.ext zbl HEX.o);clear HEX;rename World=>wb;go_wp2_with fail
   refine (HTX.o.print _ (zbo 0 N) wb (HTX.o.ext _ _ HTV.o EW.o) OWA.o (zcn (by decide) HN.o) (by unfold zbo; rw [List.length_map,List.length_range]; have q:=HN.o; omega)).to fun r wp ep hr=>?_;replace hr:r=SS (printCl (zbo 0 N)):=hr;subst hr;have HLPA:Hid ((printCl (zbo 0 N)).length<=100000):=Nat.le_trans (HTX.o.len _ (zcn (by decide) HN.o)) (by unfold zbo; rw [List.length_map,List.length_range]; have q:=HN.o; omega);obtain ⟨PA,hpPA⟩:∃ x,printCl (zbo 0 N)=x:=⟨_,rfl⟩;have HPPA:=zhd hpPA;rw [hpPA];clear hpPA;replace EW:=zhd (EW.o.trans ep);replace OWB:=zhd (OWB.o.ext zbl ep);clear ep OWA;go_wp2_with fail
   refine (HTX.o.print _ (zbo 1 M) wp (HTX.o.ext _ _ HTV.o EW.o) OWB.o (zcn (by decide) HM.o) (by unfold zbo; rw [List.length_map,List.length_range]; have q:=HM.o; omega)).to fun r wq ep hr=>?_;replace hr:r=SS (printCl (zbo 1 M)):=hr;subst hr;have HLPB:Hid ((printCl (zbo 1 M)).length<=100000):=Nat.le_trans (HTX.o.len _ (zcn (by decide) HM.o)) (by unfold zbo; rw [List.length_map,List.length_range]; have q:=HM.o; omega);obtain ⟨PB,hpPB⟩:∃ x,printCl (zbo 1 M)=x:=⟨_,rfl⟩;have HPPB:=zhd hpPB;rw [hpPB];clear hpPB;replace EW:=zhd (EW.o.trans ep);clear ep OWB;go_wp2_with (with_reducible refine zT ?_)
   unfold Hid;refine zbe rfl 9 2 #[SS PA,SS PB] (by kernel_rfl) (fun b70 w601_ M601=>?_);have zvo:=zmb M601
   have HSS:Hid (zlu w601_ (.slice (some ⟨b70,0,none⟩) 2 2) [printCl (zbo 0 N),printCl (zbo 1 M)]):=by
    have q:w601_.ownsRow 0 9 1 (.slice (some ⟨b70,0,none⟩) 2 2) 2 [SS PA,SS PB]:=zbB M601.o (Nat.zero_le _) rfl (by decide);rw [HPPA.o,HPPB.o];exact Row.of_owns q
   clear zvo;go_wp2_with fail
   obtain ⟨S,hS⟩:∃ x,zlA (zck N M) steps=x:=⟨_,rfl⟩;have hrt:=znL HN.o HM.o;have hfx:=zgJ hrt steps;rw [hS] at hfx;have FX:=zhd hfx;have HFM:=zhd hS;have HRT:=zhd hrt;clear hfx hS hrt;replace EW:=zet EW M601;refine ((zdj HTX.o HPL.o HSE.o HIO.o _ _ [printCl (zbo 0 N),printCl (zbo 1 M)] (zck N M) steps w601_ (HTX.o.ext _ _ HTV.o EW.o) HSS.o (HSTP.o.ext EW.o) (zoO HN.o HM.o HLPA.o HLPB.o) HRT.o h400.o).mono fun r w' _ h=>(by rw [HFM.o] at h; exact h)).to fun r ws es9 hr=>?_;obtain ⟨cs,rfl,hcs⟩:=hr;obtain ⟨c9,u9,a9,p9,box9,plan9,cl9,rfl,hM⟩:=zcu (Rd.widen (B:=fun k=>k < ws.heap.size) (Rd.of (φ:=fun w=>zdi w cs S) (fun w w' hk h=>zhN w w' _ _ hk h) hcs) (fun _ _ h=>h));obtain ⟨ca9,cc9,ua9,uc9,aa9,ac9,pa9,pc9,xa9,xc9,la9,lc9,ka9,kc9,rfl,rfl,rfl,rfl,rfl,rfl,rfl⟩:=hM.slices;obtain ⟨Z9,HZ9⟩:∃ X:Nat->Prop,Hid (∀ k,X k↔k < ws.heap.size):=⟨_,fun _=>Iff.rfl⟩;have X9:=zhd (hM.widen (B:=Z9) fun k _ h=>(HZ9.o k).2 h);clear hcs hM;replace EW:=zhd (EW.o.trans es9);clear es9;clear HSS HFM HRT HPPA HPPB HLPA HLPB;go_wp2_with (with_reducible refine zT ?_)
   refine zac rfl 43 zM (by kernel_rfl) (fun b11 w602_ M602=>?_);obtain ⟨Z91,HZ91⟩:=zEx Z9 b11;have zhH:=zNn HZ91;have znj:=zOn M602 EW;have zbJ:=zmb M602;go_wp2_with (with_reducible refine zT ?_)
   refine zaa rfl 43 (.tmp 11) (.tmp 73) rfl b11 rfl [.slice ca9 S.store.cells.length cc9,.slice ua9 S.store.undo.length uc9,.slice aa9 S.store.answers.length ac9,.slice pa9 S.store.past.length pc9,I S.server.gen,.slice xa9 S.server.box.length xc9,.bool S.server.busy,I S.server.now.client,I S.server.now.token,I S.server.now.call.kind,I S.server.now.call.name,I S.server.now.call.other,I S.server.now.call.n,.slice la9 S.server.plan.length lc9,I S.server.says.err,I S.server.says.n,.bool S.up,I S.pause,I S.falls,.slice ka9 S.clients.length kc9] (rfl) zbJ rfl zaT rfl (fun w603_ M603=>?_);replace zbJ:=zwb M603;have HRM:=zhd (zso HN.o HM.o FX.o.donep);have HRL:Hid (S.store.past.length=N+M):=zp7 FX.o.donep;have HUN:=zhd (zoS FX.o);have HNM:=zhd FX.o.names;obtain ⟨NL,hnl⟩:∃ x,names S.store.past=x:=⟨_,rfl⟩;have HNL:=zhd hnl;rw [hnl] at HNM HUN;have HNC:Hid (S.clients.length=2):=FX.o.nc
   have HLN:Hid (NL.length=min 5 (N+M)):=by
    have q:=HRM.o.len;rw [hnl,HRL.o] at q;exact q
   have HTD:Hid (∀ k t c x,S.clients[k]?=some c->c.got[t]?=some x->k < 2/\c.got.length<=8/\((x.err=0/\((1+100 * k+t:Nat):Int) ∈ NL.map Prod.fst)∨(x.err=9/\((1+100 * k+t:Nat):Int) ∉ NL.map Prod.fst))):=fun k t c x hc hx=>by
    have hk:k < 2:=by have q:=(List.getElem?_eq_some_iff.1 hc).1; rw [HNC.o] at q; exact q
    have ht:t < c.got.length:=(List.getElem?_eq_some_iff.1 hx).1;obtain ⟨g1,g2⟩:=FX.o.got hc;have g3:=zrj FX.o hc;have q:=HRM.o.told k t hk (by rw [g3,<- g1]; exact ht);have e:(told S.store.past k).getD t ⟨0,0⟩=x:=by rw [<- g2,List.getD_eq_getElem?_getD,hx]; rfl
    rw [e,hnl] at q;exact ⟨hk,by rw [g1]; exact zma HN.o HM.o,q⟩
   clear hnl;go_wp2_with ((with_reducible refine zsm ?_ ?_); exact rfl)
   unfold Hid;obtain ⟨V,HV0⟩:∃ X:Nat->Prop,Hid (∀ k,X k↔(Z91 k/\k < w603_.heap.size)):=⟨_,fun _=>Iff.rfl⟩;replace X9:=zHw M603 (zhd ((zMD HZ91 M602 X9).o.ext M602.o.ext)) zhH;replace X9:=zhd (X9.o.widen (B:=V) fun k hk h=>(HV0.o k).2 ⟨h,hk⟩);replace zhH:Hid (¬ V b11):=fun h=>zhH.o ((HV0.o _).1 h).1;have VLT:Hid (∀ k,V k->k < w603_.heap.size):=fun k h=>((HV0.o _).1 h).2;refine zh8 rfl 56 3 4 rfl (fun bm wm hs0 hbm hem=>?_);replace EW:=zwe M603 (zet EW M602) znj;have EWM:=EW;replace EW:=hem;clear hem;have E0:=EWM;have HST:=hs0;clear hs0;go_wp2_with (with_reducible refine zT ?_)
   replace zbJ:=zbx zbJ EW.o;refine zah rfl 43 (.tmp 11) rfl b11 rfl zbJ za2 zaT (fun v78 H_v78=>?_);go_wp2_with fail
   rw [H_v78.o];clear H_v78;replace X9:=zhd (X9.o.ext EW.o);refine (HNO.o S _ _ _ _ _ _ _ wm V X9.o FX.o.look).to fun r wn en hr=>?_;rw [HNM.o] at hr;obtain ⟨na,nc,rfl⟩:=zao hr;have HNW:=zhd hr;clear hr;replace zbJ:=zbx zbJ en;replace X9:=zhd (X9.o.ext en);replace HST:=zhd (HST.o.ext en);replace EW:=zhd (EW.o.trans en);clear en;obtain ⟨es,cl,hmb⟩:=HST.o.map;have ZB:Hid (∀ k,V k->k < w603_.heap.size):=VLT;obtain ⟨V3,HV3⟩:∃ X:Nat->Prop,Hid (∀ k,X k↔(k < wn.heap.size/\k≠bm)):=⟨_,fun _=>Iff.rfl⟩;have hnw3:Rd V3 (fun w=>zar w (.slice na NL.length nc) NL) wn:=Rd.widen (zgN HNW.o hmb) (fun k _ h=>(HV3.o k).2 h);replace HNW:=zhd hnw3;replace X9:=zhd (X9.o.widen (B:=V3) fun k hk h=>(HV3.o k).2 ⟨hk,by have q:=ZB.o k h; have q2:=hbm.o; omega⟩);have NV3:Hid (¬ V3 bm):=fun h=>((HV3.o _).1 h).2 rfl;clear hmb hnw3 ZB;go_wp2_with fail
   go_loopw [81] (fun i wr=>∃ j:Nat,j<=NL.length/\i=I j/\zeF Tryz.prog 3 4 bm j ((NL.take j).map Prod.fst) wr/\Rd V3 (fun w=>zar w (.slice na NL.length nc) NL) wr/\Ext w603_ wr/\RdM V3 wr S (.slice ca9 S.store.cells.length cc9) (.slice ua9 S.store.undo.length uc9) (.slice aa9 S.store.answers.length ac9) (.slice pa9 S.store.past.length pc9) (.slice xa9 S.server.box.length xc9) (.slice la9 S.server.plan.length lc9) (.slice ka9 S.clients.length kc9)/\wr.heap[b11]?=some (.cells #[.slice ca9 S.store.cells.length cc9,.slice ua9 S.store.undo.length uc9,.slice aa9 S.store.answers.length ac9,.slice pa9 S.store.past.length pc9,I S.server.gen,.slice xa9 S.server.box.length xc9,.bool S.server.busy,I S.server.now.client,I S.server.now.token,I S.server.now.call.kind,I S.server.now.call.name,I S.server.now.call.other,I S.server.now.call.n,.slice la9 S.server.plan.length lc9,I S.server.says.err,I S.server.says.n,.bool S.up,I S.pause,I S.falls,.slice ka9 S.clients.length kc9] 43 (0,0))) (fun i _=>NL.length - (intOf i).toNat)
   case atStart=>exact ⟨0,Nat.zero_le _,rfl,HST.o,HNW.o,EW.o,X9.o,zbJ.o⟩
   case round =>
    obtain ⟨j,hj,rfl,hs,hnw,hex,hx9,hb11⟩:=hrel;clear HST HNW EW X9 zbJ;have HST:=zhd hs;have HNW:=zhd hnw;have EW:=zhd hex;have X9:=zhd hx9;have zbJ:=zhd hb11;clear hs hnw hex hx9 hb11;by_cases hlt:j < NL.length
    case pos =>
     obtain ⟨_,_,e1,_,_,hat⟩:=HNW.o.o.form;simp only [Value.slice.injEq,true_and] at e1;obtain ⟨rfl,rfl⟩:=e1;obtain ⟨nb,no,rfl,d0,d1⟩:=hat j hlt;obtain ⟨p,hp⟩:∃ p,NL[j]?=some p:=⟨NL[j],List.getElem?_eq_getElem hlt⟩;rw [show NL.getD j (0,0)=p by rw [List.getD_eq_getElem?_getD,hp]; rfl] at d0 d1;have HP:=zhd hp;have HLT:=zhd hlt;obtain ⟨p1,p2⟩:=p;simp only [] at d0 d1;have hli:(j:Int) < (NL.length:Int):=by omega
     have hl0:(0:Int)<=(j:Int):=by omega
     clear hat hp hlt hj;go_wp2_with (with_reducible refine zT ?_)
     clear d0 d1 hli hl0;refine zac rfl 52 #[I 0,I 0] (by kernel_rfl) (fun b15 w801_ M801=>?_);have zqh:=zld zbJ M801;obtain ⟨V31,HV31⟩:=zEx V3 b15;have ztS:=zNn HV31;have zuM:=zIn HV31;have zvh:Hid (w603_.heap.size<=b15):=by unfold Hid; have q2:=M801.o.at_; have q3:=EW.o.size; omega
     have ztX:=zmb M801;go_wp2_with (with_reducible refine zT ?_)
     refine zaa rfl 52 (.tmp 15) (.tmp 84) rfl b15 rfl [I p1,I p2] (rfl) ztX rfl zve rfl (fun w802_ M802=>?_);replace HST:=zhd ((zhd (HST.o.ext M801.o.ext)).o.kept ztX.o M802.o.grown);replace ztX:=zwb M802;have e0:=zae (i:=0) ztX.o rfl;go_wp2_with ((with_reducible refine zsp ?_ ?_); exact rfl)
     unfold Hid;clear e0;have hp1:1<=p1/\p1<=255:=HUN.o.2.2 p1 (List.mem_map.2 ⟨(p1,p2),List.mem_of_getElem? HP.o,rfl⟩);refine zeG rfl (.tmp 85) (.tmp 87) (.const (.bool true)) 56 3 4 rfl zu3 znf zu4 bm j ((NL.take j).map Prod.fst) rfl p1 rfl (zfT (by omega)) rfl (by have q:=HLT.o; have q2:=HUN.o.2.1; unfold maxLen; omega) HST.o (fun w2 hs2 hg2=>?_);obtain ⟨es,cl,hmb⟩:=HST.o.map;replace EW:=zwe M802 (zet EW M801) zvh;replace EW:=zhd (EW.o.grown hg2.o (fun k hk=>by cases hk; exact hbm.o));have hnX:¬ V31 bm:=fun h=>NV3.o (zuM.o _ h);replace HNW:=zwr M802 (zme M801 (zmd HV31 M801 HNW)) ztS;replace HNW:=zhd (HNW.o.grown hg2.o (fun k hk=>by cases hk; exact hnX));replace X9:=zHw M802 (zhd ((zMD HV31 M801 X9).o.ext M801.o.ext)) ztS;replace X9:=zhd (⟨X9.o.cells.grown hg2.o (fun k hk=>by cases hk; exact hnX),X9.o.undo.grown hg2.o (fun k hk=>by cases hk; exact hnX),X9.o.answers.grown hg2.o (fun k hk=>by cases hk; exact hnX),X9.o.past.grown hg2.o (fun k hk=>by cases hk; exact hnX),X9.o.box.grown hg2.o (fun k hk=>by cases hk; exact hnX),X9.o.plan.grown hg2.o (fun k hk=>by cases hk; exact hnX),X9.o.clients.grown hg2.o (fun k hk=>by cases hk; exact hnX)⟩:RdM _ w2 S _ _ _ _ _ _ _);replace zbJ:=zwl M802 (zmo M801 zbJ) zqh
     replace zbJ:Hid (w2.heap[b11]?=some (.cells #[.slice ca9 S.store.cells.length cc9,.slice ua9 S.store.undo.length uc9,.slice aa9 S.store.answers.length ac9,.slice pa9 S.store.past.length pc9,I S.server.gen,.slice xa9 S.server.box.length xc9,.bool S.server.busy,I S.server.now.client,I S.server.now.token,I S.server.now.call.kind,I S.server.now.call.name,I S.server.now.call.other,I S.server.now.call.n,.slice la9 S.server.plan.length lc9,I S.server.says.err,I S.server.says.n,.bool S.up,I S.pause,I S.falls,.slice ka9 S.clients.length kc9] 43 (0,0))):=by
      unfold Hid;rw [hg2.o.block b11 (zlt zbJ) (fun e=>zq7 hmb zbJ.o (Option.some.inj e))];exact zbJ.o
     have hkb:j < 2000:=by have q:=HLT.o; have q2:=HUN.o.2.1; omega
     have htk:(NL.take (j+1)).map Prod.fst=(NL.take j).map Prod.fst++[p1]:=by
      rw [List.take_add_one,HP.o,List.map_append];rfl
     clear hmb hnX;go_wp2
     go_roundw
     case rel=>exact ⟨j+1,HLT.o,by go_num,by rw [htk]; exact hs2.o,HNW.o.widen (fun k _ h=>zuM.o k h),EW.o,X9.o.widen (fun k _ h=>zuM.o k h),zbJ.o⟩
     case measure=>have:=HLT.o; simp [intOf]; omega
    obtain ⟨J,hJ⟩:∃ x,NL.length=x:=⟨_,rfl⟩;obtain rfl:j=J:=by omega
    subst hJ;have hs0:=HST.o;rw [List.take_of_length_le (Nat.le_refl _)] at hs0;have HST2:=zhd hs0;have hsz:((Maps.size (zgt (NL.map Prod.fst)):Nat):Int)=((min 5 (N+M):Nat):Int):=by rw [zqD HUN.o.1,List.length_map,HLN.o]
    clear hlt hj HST hs0 HNW;rename World=>wc;go_wp2_with (at_len; refine zb7 ?_)
    unfold Hid;refine zhk rfl (.tmp 89) 56 3 4 rfl znf bm NL.length (NL.map Prod.fst) rfl HST2.o ?_;rw [hsz];clear hsz;have hn:=HN.o;have hm:=HM.o;have hwr:IntKind.i64.wrap ((N:Int)+(M:Int))=(N:Int)+(M:Int):=by rw [IntKind.wrap_i64]; omega
    have hmm:((min 5 (N+M):Nat):Int)=min ((N:Int)+(M:Int)) 5:=by omega
    have hne:(((min 5 (N+M):Nat):Int) != min ((N:Int)+(M:Int)) 5)=false:=by rw [hmm]; simp
    clear hn hm hmm;have x19:=zae (i:=19) zbJ.o rfl;go_wp2_with fail
    clear x19 hne;have E2:=EW;replace EW:=zhd (Ext.refl wc);go_loopw [99] (fun i wr=>∃ j:Nat,j<=S.clients.length/\i=I j/\Ext wc wr) (fun i _=>S.clients.length - (intOf i).toNat)
    case atStart=>exact ⟨0,Nat.zero_le _,rfl,Ext.refl _⟩
    case round =>
     obtain ⟨j,hj,rfl,hex⟩:=hrel;replace zbJ:=zbx zbJ hex;replace X9:=zhd (X9.o.ext hex);replace HST2:=zhd (HST2.o.ext hex);replace EW:=zhd (EW.o.trans hex);clear hex;by_cases hlt:j < S.clients.length
     case neg =>
      obtain ⟨J,hJ⟩:∃ x,S.clients.length=x:=⟨_,rfl⟩;obtain rfl:j=J:=by omega
      go_wp2
      go_ret
      exact ⟨rfl,E0.o.trans (E2.o.trans EW.o)⟩
     obtain ⟨css,hcs⟩:=zdo (by decide) X9.o.clients;obtain ⟨c0,c,hc0,hc,-⟩:=zeC hcs.left.o hlt;obtain ⟨kcalls,kbox,kgot,rfl,q1,q2,q3⟩:=zd2 (zdM hcs.left hc0 hc)
     obtain ⟨kb,ko,hka⟩:∃ b o,ka9=some ⟨b,o,none⟩:=by
      obtain ⟨_,_,e1,_,_,_,hf⟩:=X9.o.clients.o.form (by decide);simp only [Value.slice.injEq,true_and] at e1;obtain ⟨rfl,rfl⟩:=e1;obtain ⟨b,o,_,e2,_⟩:=hf _ _ hc;exact ⟨b,o,e2⟩
     subst hka;have HRG:=zhd (zcY (by decide) hcs.right.o hcs.left.o.sizes hc0);obtain ⟨ka1,kc1,rfl⟩:=zaf q1.o;obtain ⟨kx1,ky1,rfl⟩:=zaf q2.o;obtain ⟨kg1,kh1,rfl⟩:=zaf q3.o;have Q3:=zhd q3;have HC:=zhd hc;clear hcs hc0 hc q1 q2 q3;have HLT:=zhd hlt;have hli:(j:Int) < (S.clients.length:Int):=by omega
     have hl0:(0:Int)<=(j:Int):=by omega
     clear hlt hj;go_wp2_with (with_reducible refine zT ?_)
     unfold Hid;clear hli hl0;refine zfG rfl 49 (.tmp 102) rfl kb (ko+j * 6) rfl [.slice ka1 c.calls.length kc1,I c.at_,.bool c.sent,I c.gen,.slice kx1 c.box.length ky1,.slice kg1 c.got.length kh1] HRG.o zcK zcm (fun v103 H_v103=>?_);go_wp2_with (with_reducible refine zT ?_)
     clear HRG;refine zac rfl 49 zC (by kernel_rfl) (fun b17 w1001_ M1001=>?_);have zpL:=zld zbJ M1001;obtain ⟨V31,HV31⟩:=zEx V3 b17;have ztZ:=zNn HV31;have zuT:Hid (wc.heap.size<=b17):=by unfold Hid; have q2:=M1001.o.at_; have q3:=EW.o.size; omega
     have zpi:=zmb M1001;go_wp2_with (with_reducible refine zT ?_)
     refine zaa rfl 49 (.tmp 17) (.tmp 103) rfl b17 rfl _ (zcv H_v103) zpi rfl zcm rfl (fun w1002_ M1002=>?_);replace HST2:=zhd ((zhd (HST2.o.ext M1001.o.ext)).o.kept zpi.o M1002.o.grown);replace zpi:=zwb M1002;have x5:=zae (i:=5) zpi.o rfl;go_wp2_with fail
     clear x5;replace EW:=zwe M1002 (zet EW M1001) zuT;have E1:=EW;replace EW:=zhd (Ext.refl w1002_);replace X9:=zHw M1002 (zhd ((zMD HV31 M1001 X9).o.ext M1001.o.ext)) ztZ;replace Q3:=zwr M1002 (zme M1001 (zmd HV31 M1001 Q3)) ztZ;replace zbJ:=zwl M1002 (zmo M1001 zbJ) zpL;go_loopw [107] (fun i wr=>∃ t:Nat,t<=c.got.length/\i=I t/\Ext w1002_ wr) (fun i _=>c.got.length - (intOf i).toNat)
     case atStart=>exact ⟨0,Nat.zero_le _,rfl,Ext.refl _⟩
     case round =>
      obtain ⟨t,ht,rfl,hex⟩:=hrel;replace zbJ:=zbx zbJ hex;replace zpi:=zbx zpi hex;replace X9:=zhd (X9.o.ext hex);replace Q3:=zrx Q3 hex;replace HST2:=zhd (HST2.o.ext hex);replace EW:=zhd (EW.o.trans hex);clear hex;by_cases hlt:t < c.got.length
      case pos =>
       obtain ⟨x,hx⟩:∃ x,c.got[t]?=some x:=⟨c.got[t],List.getElem?_eq_getElem hlt⟩;obtain ⟨_,_,e1,_,_,hf⟩:=zdT Q3.o.o;simp only [Value.slice.injEq,true_and] at e1;obtain ⟨rfl,rfl⟩:=e1;obtain ⟨gb,go2,rfl,d0,d1⟩:=hf t x hx;obtain ⟨hk2,hg8,htd⟩:=HTD.o j t c x HC.o hx;rw [show ((1+100 * j+t:Nat):Int)=1+100 * (j:Int)+(t:Int) by omega] at htd;have HLT2:=zhd hlt;have HB:=zhd (And.intro hk2 hg8);have hli:(t:Int) < (c.got.length:Int):=by omega
       have hl0:(0:Int)<=(t:Int):=by omega
       obtain ⟨xe,xn⟩:=x;simp only [] at d0 d1 htd;have hyy:(Lit.int .i64 (1+100 * (j:Int)+(t:Int))).wf=true:=zfT (by omega);have hw1:IntKind.i64.wrap (100 * (j:Int))=100 * (j:Int):=by rw [IntKind.wrap_i64]; omega
       have hw2:IntKind.i64.wrap (1+100 * (j:Int))=1+100 * (j:Int):=by rw [IntKind.wrap_i64]; omega
       have hw3:IntKind.i64.wrap (1+100 * (j:Int)+(t:Int))=1+100 * (j:Int)+(t:Int):=by rw [IntKind.wrap_i64]; omega
       have HYY:=zhd hyy;have HW:=zhd (And.intro hw1 (And.intro hw2 hw3));clear hf hx hlt ht hk2 hg8 hyy hw1 hw2 hw3;rcases htd with ⟨rfl,hd⟩ | ⟨rfl,hd⟩
       ·have HD:=zhd (decide_eq_true hd);clear hd;go_wp2_with (with_reducible refine zT ?_)
        clear d0 d1 hli hl0;refine zac rfl 38 #[I 0,I 0] (by kernel_rfl) (fun b19 w1201_ M1201=>?_);obtain ⟨V311,HV311⟩:=zEx V31 b19;have zmA:Hid (w1002_.heap.size<=b19):=by unfold Hid; have q2:=M1201.o.at_; have q3:=EW.o.size; omega
        have zgF:=zmb M1201;go_wp2_with (with_reducible refine zT ?_)
        refine zaa rfl 38 (.tmp 19) (.tmp 111) rfl b19 rfl [I 0,I xn] (rfl) zgF rfl zp2 rfl (fun w1202_ M1202=>?_);replace HST2:=zhd ((zhd (HST2.o.ext M1201.o.ext)).o.kept zgF.o M1202.o.grown);replace zgF:=zwb M1202;have e0:=zae (i:=0) zgF.o rfl;obtain ⟨hw1,hw2,hw3⟩:=HW.o;go_wp2_with ((with_reducible refine zsl ?_ ?_); exact rfl)
        unfold Hid;refine zhj rfl (.tmp 112) (.tmp 117) 56 3 4 rfl zu3 znf zu4 (zla _) bm NL.length (NL.map Prod.fst) rfl (1+100 * (j:Int)+(t:Int)) rfl HYY.o HST2.o ?_;rw [HD.o];have hkb:t < 2000:=by have q:=HLT2.o; have q2:=HB.o.2; omega
        go_wp2
        replace EW:=zwe M1202 (zet EW M1201) zmA;go_roundw
        case rel=>exact ⟨t+1,HLT2.o,by go_num,EW.o⟩
        case measure=>have:=HLT2.o; simp [intOf]; omega
       ·have HD:=zhd (decide_eq_false hd);clear hd;go_wp2_with (with_reducible refine zT ?_)
        clear d0 d1 hli hl0;refine zac rfl 38 #[I 0,I 0] (by kernel_rfl) (fun b19 w1201_ M1201=>?_);obtain ⟨V311,HV311⟩:=zEx V31 b19;have zmA:Hid (w1002_.heap.size<=b19):=by unfold Hid; have q2:=M1201.o.at_; have q3:=EW.o.size; omega
        have zgF:=zmb M1201;go_wp2_with (with_reducible refine zT ?_)
        refine zaa rfl 38 (.tmp 19) (.tmp 111) rfl b19 rfl [I 9,I xn] (rfl) zgF rfl zp2 rfl (fun w1202_ M1202=>?_);replace HST2:=zhd ((zhd (HST2.o.ext M1201.o.ext)).o.kept zgF.o M1202.o.grown);replace zgF:=zwb M1202;have e0:=zae (i:=0) zgF.o rfl;obtain ⟨hw1,hw2,hw3⟩:=HW.o;go_wp2_with ((with_reducible refine zsl ?_ ?_); exact rfl)
        unfold Hid;refine zhj rfl (.tmp 112) (.tmp 117) 56 3 4 rfl zu3 znf zu4 (zla _) bm NL.length (NL.map Prod.fst) rfl (1+100 * (j:Int)+(t:Int)) rfl HYY.o HST2.o ?_;rw [HD.o];have hkb:t < 2000:=by have q:=HLT2.o; have q2:=HB.o.2; omega
        go_wp2
        replace EW:=zwe M1202 (zet EW M1201) zmA;go_roundw
        case rel=>exact ⟨t+1,HLT2.o,by go_num,EW.o⟩
        case measure=>have:=HLT2.o; simp [intOf]; omega
      obtain ⟨J,hJ⟩:∃ x,c.got.length=x:=⟨_,rfl⟩;obtain rfl:t=J:=by omega
      subst hJ;have hkb:j < 2000:=by have q:=HLT.o; have q2:=HNC.o; omega
      clear hlt ht;go_wp2
      go_roundw
      case rel=>exact ⟨j+1,HLT.o,by go_num,E1.o.trans EW.o⟩
      case measure=>have:=HLT.o; simp [intOf]; omega

end Go.Proofs.YtdmipnnfoolelagGreatDoor

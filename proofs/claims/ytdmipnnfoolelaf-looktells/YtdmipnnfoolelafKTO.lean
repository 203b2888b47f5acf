/- Texts of the proof, merged: N4. -/
import Derived.Test.YtdmipnnfoolelafKTA
import Derived.Test.YtdmipnnfoolelafKTN
set_option maxHeartbeats 400000
set_option maxRecDepth 100000

namespace Go.Proofs.Ytdmipnnfoolelaf
open Go.RowKit Go.Mk

theorem zgA (cl:List Cl) (at_:Int) (sent:Bool) (gen:Int) (gl:List Rp) (calls box got:Value) (me gen2:Int) (up:Bool) (w:World) (A:Nat->Prop)
  (hc:Rd A (fun w=>zaq 4 zfa w calls cl) w) (hb:Rd A (fun w=>zaq 1 zcV w box []) w) (hg:Rd A (fun w=>zaq 2 zdA w got gl) w) (h0:0<=at_) :
  zaU Try.prog 33 #[.agg #[calls,I at_,.bool sent,I gen,box,got],I me,I gen2,.bool up] w A (fun r w'=>zlT zdw (zdW ⟨cl,at_,sent,gen,[],gl⟩ me gen2 up).1 (zdW ⟨cl,at_,sent,gen,[],gl⟩ me gen2 up).2.1 (zdW ⟨cl,at_,sent,gen,[],gl⟩ me gen2 up).2.2 r w'):=by
 unfold zaU;obtain ⟨ca,cc,rfl⟩:=zac hc.o;obtain ⟨ga,gc,rfl⟩:=zac hg.o;have EW:=zhd (Ext.refl w);obtain ⟨B,hB⟩:=zei A w.heap.size 2;have HK:=zhd hB;clear hB;have HC:=zhd (hc.widen HK.o.1);have HB:=zhd (hb.widen HK.o.1);have HG:=zhd (hg.widen HK.o.1);clear hc hb hg;obtain ⟨ba,bc,rfl⟩:=zac HB.o.o;have hX0:zdW ⟨cl,at_,sent,gen,[],gl⟩ me gen2 up=if (cl.length:Int)<=at_ then (⟨cl,at_,sent,gen,[],gl⟩,[],11) else if ¬ up then (⟨cl,at_,sent,gen,[],gl⟩,[],10) else if sent/\gen=gen2 then (⟨cl,at_,sent,gen,[],gl⟩,[],12) else (⟨cl,at_,true,gen2,[],gl⟩,zc0 ⟨me,at_,cl.getD at_.toNat ⟨0,0,0,0⟩⟩,0):=rfl;by_cases hat:(cl.length:Int)<=at_
 case pos =>
  rw [hX0,if_pos hat];clear hX0;go_enter Try.func33,Try.ntmps33
  go_wp2_with (with_reducible refine zT ?_)
  refine zal rfl 61 (.tmp 0) rfl #[.slice ca cl.length cc,I at_,.bool sent,I gen,.slice ba 0 bc,.slice ga gl.length gc] rfl (fun b0 w1_ M1=>?_);have zab:=zmb M1;go_wp2_with (with_reducible refine zT ?_)
  refine zah rfl 61 zC (by kernel_rfl) (fun b1 w2_ M2=>?_);have zad:=zmb M2;have za3:=zA0 M1;have za7:=zA1 za3 M1 M2;have zaD:=znb HK za7 (by decide);have zbu:=zob za7;replace zab:=zmo M2 zab;have c0:=zaa (i:=0) zab.o rfl;have c1:=zaa (i:=1) zab.o rfl;have c2:=zaa (i:=2) zab.o rfl;have c3:=zaa (i:=3) zab.o rfl;have c4:=zaa (i:=4) zab.o rfl;go_wp2_with (with_reducible refine zT ?_)
  clear c0 c1 c2 c3 c4;refine zai rfl 61 (.tmp 4) rfl b0 rfl zab zcn zcw (fun v69 H_v69=>?_);go_wp2_with (with_reducible refine zT ?_)
  refine zaf rfl 61 (.tmp 8) (.tmp 69) rfl b1 rfl _ (zcv H_v69) zad rfl zcw rfl (fun w3_ M3=>?_);replace zad:=zwb M3;go_wp2
  have z0:=zay (P:=Try.prog) 61 zad.o zcn (by kernel_rfl);refine bodyPost_ret (by simp [results,Try.results33,asAddr,z0]; rfl) rfl ?_;replace HC:=zwr M3 (zme M2 (zme M1 HC)) zaD;replace HB:=zwr M3 (zme M2 (zme M1 HB)) zaD;replace HG:=zwr M3 (zme M2 (zme M1 HG)) zaD;replace EW:=zwe M3 (zet (zet EW M1) M2) zbu;exact ⟨_,rfl,EW.o,Rd.widen (A:=B) (zcg (zc8 (c:=⟨cl,at_,sent,gen,[],gl⟩) (HC.o) (HB.o) (HG.o)) (Rd.all fun w=>za9 w)) (fun k _ h=>HK.o.2.2.2 k h)⟩
 rw [hX0,if_neg hat];cases up
 case false =>
  rw [if_pos (by simp)];clear hX0;go_enter Try.func33,Try.ntmps33
  go_wp2_with (with_reducible refine zT ?_)
  refine zal rfl 61 (.tmp 0) rfl #[.slice ca cl.length cc,I at_,.bool sent,I gen,.slice ba 0 bc,.slice ga gl.length gc] rfl (fun b0 w1_ M1=>?_);have zab:=zmb M1;go_wp2_with (with_reducible refine zT ?_)
  refine zah rfl 61 zC (by kernel_rfl) (fun b1 w2_ M2=>?_);have zad:=zmb M2;have za3:=zA0 M1;have za7:=zA1 za3 M1 M2;have zaD:=znb HK za7 (by decide);have zbu:=zob za7;replace zab:=zmo M2 zab;have c0:=zaa (i:=0) zab.o rfl;have c1:=zaa (i:=1) zab.o rfl;have c2:=zaa (i:=2) zab.o rfl;have c3:=zaa (i:=3) zab.o rfl;have c4:=zaa (i:=4) zab.o rfl;go_wp2_with (with_reducible refine zT ?_)
  clear c0 c1 c2 c3 c4;refine zai rfl 61 (.tmp 4) rfl b0 rfl zab zcn zcw (fun v72 H_v72=>?_);go_wp2_with (with_reducible refine zT ?_)
  refine zaf rfl 61 (.tmp 8) (.tmp 72) rfl b1 rfl _ (zcv H_v72) zad rfl zcw rfl (fun w3_ M3=>?_);replace zad:=zwb M3;go_wp2
  have z0:=zay (P:=Try.prog) 61 zad.o zcn (by kernel_rfl);refine bodyPost_ret (by simp [results,Try.results33,asAddr,z0]; rfl) rfl ?_;replace HC:=zwr M3 (zme M2 (zme M1 HC)) zaD;replace HB:=zwr M3 (zme M2 (zme M1 HB)) zaD;replace HG:=zwr M3 (zme M2 (zme M1 HG)) zaD;replace EW:=zwe M3 (zet (zet EW M1) M2) zbu;exact ⟨_,rfl,EW.o,Rd.widen (A:=B) (zcg (zc8 (c:=⟨cl,at_,sent,gen,[],gl⟩) (HC.o) (HB.o) (HG.o)) (Rd.all fun w=>za9 w)) (fun k _ h=>HK.o.2.2.2 k h)⟩
 rw [if_neg (by simp)];by_cases hsg:sent=true/\gen=gen2
 case pos =>
  rw [if_pos hsg];obtain ⟨rfl,rfl⟩:=hsg;clear hX0;go_enter Try.func33,Try.ntmps33
  go_wp2_with (with_reducible refine zT ?_)
  refine zal rfl 61 (.tmp 0) rfl #[.slice ca cl.length cc,I at_,.bool true,I gen,.slice ba 0 bc,.slice ga gl.length gc] rfl (fun b0 w1_ M1=>?_);have zab:=zmb M1;go_wp2_with (with_reducible refine zT ?_)
  refine zah rfl 61 zC (by kernel_rfl) (fun b1 w2_ M2=>?_);have zad:=zmb M2;have za3:=zA0 M1;have za7:=zA1 za3 M1 M2;have zaD:=znb HK za7 (by decide);have zbu:=zob za7;replace zab:=zmo M2 zab;have c0:=zaa (i:=0) zab.o rfl;have c1:=zaa (i:=1) zab.o rfl;have c2:=zaa (i:=2) zab.o rfl;have c3:=zaa (i:=3) zab.o rfl;have c4:=zaa (i:=4) zab.o rfl;go_wp2_with (with_reducible refine zT ?_)
  clear c0 c1 c2 c3 c4;refine zai rfl 61 (.tmp 4) rfl b0 rfl zab zcn zcw (fun v81 H_v81=>?_);go_wp2_with (with_reducible refine zT ?_)
  refine zaf rfl 61 (.tmp 8) (.tmp 81) rfl b1 rfl _ (zcv H_v81) zad rfl zcw rfl (fun w3_ M3=>?_);replace zad:=zwb M3;go_wp2
  have z0:=zay (P:=Try.prog) 61 zad.o zcn (by kernel_rfl);refine bodyPost_ret (by simp [results,Try.results33,asAddr,z0]; rfl) rfl ?_;replace HC:=zwr M3 (zme M2 (zme M1 HC)) zaD;replace HB:=zwr M3 (zme M2 (zme M1 HB)) zaD;replace HG:=zwr M3 (zme M2 (zme M1 HG)) zaD;replace EW:=zwe M3 (zet (zet EW M1) M2) zbu;exact ⟨_,rfl,EW.o,Rd.widen (A:=B) (zcg (zc8 (c:=⟨cl,at_,true,gen,[],gl⟩) (HC.o) (HB.o) (HG.o)) (Rd.all fun w=>za9 w)) (fun k _ h=>HK.o.2.2.2 k h)⟩
 rw [if_neg hsg];clear hX0
 have hsel:(sent=false∨(sent=true/\(gen == gen2)=false)):=by
  cases sent
  ·exact .inl rfl
  ·exact .inr ⟨rfl,by simpa using hsg⟩
 clear hsg;obtain ⟨cx,hcx⟩:∃ x,cl[at_.toNat]?=some x:=⟨_,List.getElem?_eq_getElem (by omega)⟩;have hgd:cl.getD at_.toNat ⟨0,0,0,0⟩=cx:=by simp [hcx]
 rw [hgd];clear hgd;obtain ⟨ao,cap,e1,-,-,-,hform⟩:=HC.o.o.form (by decide);simp only [Value.slice.injEq,true_and] at e1;obtain ⟨rfl,rfl⟩:=e1;obtain ⟨xk,xa,xo,xn⟩:=cx;obtain ⟨cb,co,c4,rfl,-,hc4,hcell⟩:=hform _ _ hcx;have hc4:c4=[I xk,I xa,I xo,I xn]:=hc4;subst hc4;have HCELL:=zhd hcell;have hlt:at_ < (cl.length:Int):=by omega
 clear hcell hform hcx hat;obtain ⟨j,rfl⟩:∃ j:Nat,at_=(j:Int):=⟨at_.toNat,by omega⟩;simp only [Int.toNat_natCast] at HCELL;rcases hsel with rfl | ⟨rfl,hgn⟩
 ·go_enter Try.func33,Try.ntmps33
  go_wp2_with (with_reducible refine zT ?_)
  refine zal rfl 61 (.tmp 0) rfl #[.slice (some ⟨cb,co,none⟩) cl.length cc,I j,.bool false,I gen,.slice ba 0 bc,.slice ga gl.length gc] rfl (fun b0 w1_ M1=>?_);have zab:=zmb M1;go_wp2_with (with_reducible refine zT ?_)
  refine zah rfl 61 zC (by kernel_rfl) (fun b1 w2_ M2=>?_);have zaB:=zld zab M2;have zad:=zmb M2;have za3:=zA0 M1;have zaJ:=znb HK za3 (by decide);have zbD:=zob za3;have za7:=zA1 za3 M1 M2;have zaD:=znb HK za7 (by decide);have zbu:=zob za7;replace zab:=zmo M2 zab;have c0:=zaa (i:=0) zab.o rfl;have c1:=zaa (i:=1) zab.o rfl;have c2:=zaa (i:=2) zab.o rfl;have c3:=zaa (i:=3) zab.o rfl;have c4:=zaa (i:=4) zab.o rfl;go_wp2_with (with_reducible refine zT ?_)
  clear c0 c1 c2 c3 c4;refine zap rfl 4 (.tmp 83) (.const (.bool true)) rfl b0 2 rfl [.bool true] (rfl) zab rfl zi4 rfl [.slice (some ⟨cb,co,none⟩) cl.length cc,I j,.bool true,I gen,.slice ba 0 bc,.slice ga gl.length gc] rfl (fun w3_ M3=>?_);replace zab:=zwb M3;go_wp2_with (with_reducible refine zT ?_)
  refine zap rfl 3 (.tmp 84) (.tmp 82) rfl b0 3 rfl [I gen2] (rfl) zab rfl zi3 rfl [.slice (some ⟨cb,co,none⟩) cl.length cc,I j,.bool true,I gen2,.slice ba 0 bc,.slice ga gl.length gc] rfl (fun w4_ M4=>?_);replace zab:=zwb M4;go_wp2_with fail
  have hbx:=zab.o;have x0:=zaa (i:=0) hbx rfl;have x1:=zaa (i:=1) hbx rfl;replace EW:=zwe M4 (zwe M3 (zet (zet EW M1) M2) zbD) zbD;have y0:=EW.o.cell (HCELL.o 0 _ rfl);have y1:=EW.o.cell (HCELL.o 1 _ rfl);have y2:=EW.o.cell (HCELL.o 2 _ rfl);have y3:=EW.o.cell (HCELL.o 3 _ rfl);simp only [Nat.add_zero,<- Nat.add_assoc] at y0 y1 y2 y3;replace HC:=zwr M4 (zwr M3 (zme M2 (zme M1 HC)) zaJ) zaJ;replace HB:=zwr M4 (zwr M3 (zme M2 (zme M1 HB)) zaJ) zaJ;replace HG:=zwr M4 (zwr M3 (zme M2 (zme M1 HG)) zaJ) zaJ;replace zad:=zwg M4 (zwg M3 zad zaB) zaB;refine zau 12 [none,none,none,none,none,none,none,none,none,none,none,some (.inr fun v wx=>zcA w4_.heap.size wx v (zc0 ⟨me,j,⟨xk,xa,xo,xn⟩⟩))] (by kernel_rfl) (by kernel_rfl) ?_ ?_
  ·exact ⟨trivial,trivial,trivial,trivial,trivial,trivial,trivial,trivial,trivial,trivial,trivial,zdZ _ _,trivial⟩
  refine zax (.agg #[.slice (some ⟨cb,co,none⟩) cl.length cc,I j,.bool true,I gen2,.slice ba 0 bc,.slice ga gl.length gc]) rfl (fun w' hw'=>zbG 61 (.tmp 4) rfl b0 0 rfl (zcy hbx hw') [.slice (some ⟨cb,co,none⟩) cl.length cc,I j,.bool true,I gen2,.slice ba 0 bc,.slice ga gl.length gc] rfl zcn (by kernel_rfl)) ?_;refine zae fun K h=>?_; go_simp; refine h _ ?_; clear h K;(refine zaj (fun K hK=>?_); go_simp; first | refine hK _ ?_ | refine ⟨(fun h=>by cases h),hK _ ?_⟩; clear hK K)
  (refine zaj (fun K hK=>?_); go_simp; first | refine hK _ ?_ | refine ⟨(fun h=>by cases h),hK _ ?_⟩; clear hK K)
  refine zax (I j) rfl (fun w' hw'=>by have q0:=hw'.cell x1; go_simp) ?_;refine zae fun K h=>?_; go_simp; refine h _ ?_; clear h K;(refine zaj (fun K hK=>?_); go_simp; first | refine hK _ ?_ | refine ⟨(fun h=>by cases h),hK _ ?_⟩; clear hK K)
  refine zax (.slice (some ⟨cb,co,none⟩) cl.length cc) rfl (fun w' hw'=>by have q0:=hw'.cell x0; go_simp) ?_;refine zae fun K h=>?_; go_simp; refine h _ ?_; clear h K;(refine zaj (fun K hK=>?_); go_simp; first | refine hK _ ?_ | refine ⟨(fun h=>by cases h),hK _ ?_⟩; clear hK K)
  refine zax (I j) rfl (fun w' hw'=>by have q0:=hw'.cell x1; go_simp) ?_;refine zae fun K h=>?_; go_simp; refine h _ ?_; clear h K;(refine zaj (fun K hK=>?_); go_simp; first | refine hK _ ?_ | refine ⟨(fun h=>by cases h),hK _ ?_⟩; clear hK K)
  refine zax (.agg #[I xk,I xa,I xo,I xn]) rfl (fun w' hw'=>by have q0:=hw'.cell y0; have q1:=hw'.cell y1; have q2:=hw'.cell y2; have q3:=hw'.cell y3; go_simp) ?_;refine zae fun K h=>?_; go_simp; refine h _ ?_; clear h K;(refine zaj (fun K hK=>?_); go_simp; first | refine hK _ ?_ | refine ⟨(fun h=>by cases h),hK _ ?_⟩; clear hK K)
  refine za0 _ rfl (fun w' hw' hk=>?_) (fun v96=>?_)
  ·have hg:=zew me j xk xa xo xn w';have hle:=hw'.size;clear hk;unfold zaI;go_simp
   exact ⟨Ext.refl _,hg.mono fun _ _ _ ⟨b,o,n,c,e,hb,h⟩=>⟨b,o,n,c,e,Nat.le_trans hle hb,h⟩⟩
  refine zae fun K h=>?_; go_simp; refine h _ ?_; clear h K;refine zaL ?_;intro w9 e9 hX;have hby:zcA w4_.heap.size w9 v96 (zc0 ⟨me,j,⟨xk,xa,xo,xn⟩⟩):=hX 96;clear hX x0 x1 y0 y1 y2 y3 hbx;have hsz:w.heap.size+2<=w4_.heap.size:=by have q:=(zlt zad); have q2:=za7.o; omega
  have HBY:=zhd (hby.rd.widen (B:=B) (fun k _ h=>HK.o.2.1 k (by omega)));clear hby hsz;show wpList _ _ _ [_,_,_] _ _
  go_wp2_with (with_reducible refine zT ?_)
  replace zad:=zbx zad e9;refine zaf rfl 61 (.tmp 8) (.tmp 85) rfl b1 rfl [.slice (some ⟨cb,co,none⟩) cl.length cc,I j,.bool true,I gen2,.slice ba 0 bc,.slice ga gl.length gc] (rfl) zad rfl zcw rfl (fun w5_ M5=>?_);replace zad:=zwb M5;go_wp2
  have z0:=zay (P:=Try.prog) 61 zad.o zcn (by kernel_rfl);refine bodyPost_ret (by simp [results,Try.results33,asAddr,z0]; rfl) rfl ?_;replace HC:=zwr M5 (zrx HC e9) zaD;replace HB:=zwr M5 (zrx HB e9) zaD;replace HG:=zwr M5 (zrx HG e9) zaD;replace EW:=zwe M5 (zhd (EW.o.trans e9)) zbu;replace HBY:=zwr M5 HBY zaD;exact ⟨_,rfl,EW.o,Rd.widen (A:=B) (zcg (zc8 (c:=⟨cl,j,true,gen2,[],gl⟩) HC.o HB.o HG.o) HBY.o) (fun k _ h=>HK.o.2.2.2 k h)⟩
 ·go_enter Try.func33,Try.ntmps33
  go_wp2_with (with_reducible refine zT ?_)
  refine zal rfl 61 (.tmp 0) rfl #[.slice (some ⟨cb,co,none⟩) cl.length cc,I j,.bool true,I gen,.slice ba 0 bc,.slice ga gl.length gc] rfl (fun b0 w1_ M1=>?_);have zab:=zmb M1;go_wp2_with (with_reducible refine zT ?_)
  refine zah rfl 61 zC (by kernel_rfl) (fun b1 w2_ M2=>?_);have zaB:=zld zab M2;have zad:=zmb M2;have za3:=zA0 M1;have zaJ:=znb HK za3 (by decide);have zbD:=zob za3;have za7:=zA1 za3 M1 M2;have zaD:=znb HK za7 (by decide);have zbu:=zob za7;replace zab:=zmo M2 zab;have c0:=zaa (i:=0) zab.o rfl;have c1:=zaa (i:=1) zab.o rfl;have c2:=zaa (i:=2) zab.o rfl;have c3:=zaa (i:=3) zab.o rfl;have c4:=zaa (i:=4) zab.o rfl;go_wp2_with (with_reducible refine zT ?_)
  clear c0 c1 c2 c3 c4;refine zap rfl 4 (.tmp 83) (.const (.bool true)) rfl b0 2 rfl [.bool true] (rfl) zab rfl zi4 rfl [.slice (some ⟨cb,co,none⟩) cl.length cc,I j,.bool true,I gen,.slice ba 0 bc,.slice ga gl.length gc] rfl (fun w3_ M3=>?_);replace zab:=zwb M3;go_wp2_with (with_reducible refine zT ?_)
  refine zap rfl 3 (.tmp 84) (.tmp 82) rfl b0 3 rfl [I gen2] (rfl) zab rfl zi3 rfl [.slice (some ⟨cb,co,none⟩) cl.length cc,I j,.bool true,I gen2,.slice ba 0 bc,.slice ga gl.length gc] rfl (fun w4_ M4=>?_);replace zab:=zwb M4;go_wp2_with fail
  have hbx:=zab.o;have x0:=zaa (i:=0) hbx rfl;have x1:=zaa (i:=1) hbx rfl;replace EW:=zwe M4 (zwe M3 (zet (zet EW M1) M2) zbD) zbD;have y0:=EW.o.cell (HCELL.o 0 _ rfl);have y1:=EW.o.cell (HCELL.o 1 _ rfl);have y2:=EW.o.cell (HCELL.o 2 _ rfl);have y3:=EW.o.cell (HCELL.o 3 _ rfl);simp only [Nat.add_zero,<- Nat.add_assoc] at y0 y1 y2 y3;replace HC:=zwr M4 (zwr M3 (zme M2 (zme M1 HC)) zaJ) zaJ;replace HB:=zwr M4 (zwr M3 (zme M2 (zme M1 HB)) zaJ) zaJ;replace HG:=zwr M4 (zwr M3 (zme M2 (zme M1 HG)) zaJ) zaJ;replace zad:=zwg M4 (zwg M3 zad zaB) zaB;refine zau 12 [none,none,none,none,none,none,none,none,none,none,none,some (.inr fun v wx=>zcA w4_.heap.size wx v (zc0 ⟨me,j,⟨xk,xa,xo,xn⟩⟩))] (by kernel_rfl) (by kernel_rfl) ?_ ?_
  ·exact ⟨trivial,trivial,trivial,trivial,trivial,trivial,trivial,trivial,trivial,trivial,trivial,zdZ _ _,trivial⟩
  refine zax (.agg #[.slice (some ⟨cb,co,none⟩) cl.length cc,I j,.bool true,I gen2,.slice ba 0 bc,.slice ga gl.length gc]) rfl (fun w' hw'=>zbG 61 (.tmp 4) rfl b0 0 rfl (zcy hbx hw') [.slice (some ⟨cb,co,none⟩) cl.length cc,I j,.bool true,I gen2,.slice ba 0 bc,.slice ga gl.length gc] rfl zcn (by kernel_rfl)) ?_;refine zae fun K h=>?_; go_simp; refine h _ ?_; clear h K;(refine zaj (fun K hK=>?_); go_simp; first | refine hK _ ?_ | refine ⟨(fun h=>by cases h),hK _ ?_⟩; clear hK K)
  (refine zaj (fun K hK=>?_); go_simp; first | refine hK _ ?_ | refine ⟨(fun h=>by cases h),hK _ ?_⟩; clear hK K)
  refine zax (I j) rfl (fun w' hw'=>by have q0:=hw'.cell x1; go_simp) ?_;refine zae fun K h=>?_; go_simp; refine h _ ?_; clear h K;(refine zaj (fun K hK=>?_); go_simp; first | refine hK _ ?_ | refine ⟨(fun h=>by cases h),hK _ ?_⟩; clear hK K)
  refine zax (.slice (some ⟨cb,co,none⟩) cl.length cc) rfl (fun w' hw'=>by have q0:=hw'.cell x0; go_simp) ?_;refine zae fun K h=>?_; go_simp; refine h _ ?_; clear h K;(refine zaj (fun K hK=>?_); go_simp; first | refine hK _ ?_ | refine ⟨(fun h=>by cases h),hK _ ?_⟩; clear hK K)
  refine zax (I j) rfl (fun w' hw'=>by have q0:=hw'.cell x1; go_simp) ?_;refine zae fun K h=>?_; go_simp; refine h _ ?_; clear h K;(refine zaj (fun K hK=>?_); go_simp; first | refine hK _ ?_ | refine ⟨(fun h=>by cases h),hK _ ?_⟩; clear hK K)
  refine zax (.agg #[I xk,I xa,I xo,I xn]) rfl (fun w' hw'=>by have q0:=hw'.cell y0; have q1:=hw'.cell y1; have q2:=hw'.cell y2; have q3:=hw'.cell y3; go_simp) ?_;refine zae fun K h=>?_; go_simp; refine h _ ?_; clear h K;(refine zaj (fun K hK=>?_); go_simp; first | refine hK _ ?_ | refine ⟨(fun h=>by cases h),hK _ ?_⟩; clear hK K)
  refine za0 _ rfl (fun w' hw' hk=>?_) (fun v96=>?_)
  ·have hg:=zew me j xk xa xo xn w';have hle:=hw'.size;clear hk;unfold zaI;go_simp
   exact ⟨Ext.refl _,hg.mono fun _ _ _ ⟨b,o,n,c,e,hb,h⟩=>⟨b,o,n,c,e,Nat.le_trans hle hb,h⟩⟩
  refine zae fun K h=>?_; go_simp; refine h _ ?_; clear h K;refine zaL ?_;intro w9 e9 hX;have hby:zcA w4_.heap.size w9 v96 (zc0 ⟨me,j,⟨xk,xa,xo,xn⟩⟩):=hX 96;clear hX x0 x1 y0 y1 y2 y3 hbx;have hsz:w.heap.size+2<=w4_.heap.size:=by have q:=(zlt zad); have q2:=za7.o; omega
  have HBY:=zhd (hby.rd.widen (B:=B) (fun k _ h=>HK.o.2.1 k (by omega)));clear hby hsz;show wpList _ _ _ [_,_,_] _ _
  go_wp2_with (with_reducible refine zT ?_)
  replace zad:=zbx zad e9;refine zaf rfl 61 (.tmp 8) (.tmp 85) rfl b1 rfl [.slice (some ⟨cb,co,none⟩) cl.length cc,I j,.bool true,I gen2,.slice ba 0 bc,.slice ga gl.length gc] (rfl) zad rfl zcw rfl (fun w5_ M5=>?_);replace zad:=zwb M5;go_wp2
  have z0:=zay (P:=Try.prog) 61 zad.o zcn (by kernel_rfl);refine bodyPost_ret (by simp [results,Try.results33,asAddr,z0]; rfl) rfl ?_;replace HC:=zwr M5 (zrx HC e9) zaD;replace HB:=zwr M5 (zrx HB e9) zaD;replace HG:=zwr M5 (zrx HG e9) zaD;replace EW:=zwe M5 (zhd (EW.o.trans e9)) zbu;replace HBY:=zwr M5 HBY zaD;exact ⟨_,rfl,EW.o,Rd.widen (A:=B) (zcg (zc8 (c:=⟨cl,j,true,gen2,[],gl⟩) HC.o HB.o HG.o) HBY.o) (fun k _ h=>HK.o.2.2.2 k h)⟩

end Go.Proofs.Ytdmipnnfoolelaf

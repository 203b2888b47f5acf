/- Texts of the proof, merged: N4 N5. -/
import Derived.Test.YtdmipnnfoolelafGreatKTA
import Derived.Test.YtdmipnnfoolelafGreatKTM
import Derived.Test.YtdmipnnfoolelafGreatKTD
set_option maxHeartbeats 4000000
set_option maxRecDepth 100000

namespace Go.Proofs.YtdmipnnfoolelafGreat
open Go.RowKit Go.Mk

theorem ziH (cl:List Cl) (at_:Int) (sent:Bool) (gen:Int) (gl:List Rp) (calls box got:Value) (me gen2:Int) (up:Bool) (w:World) (A:Nat->Prop)
  (hc:Rd A (fun w=>zas 4 zdw w calls cl) w) (hb:Rd A (fun w=>zas 1 zcc w box []) w) (hg:Rd A (fun w=>zas 2 zd6 w got gl) w) (h0:0<=at_) :
  zaK Tryz.prog 34 #[.agg #[calls,I at_,.bool sent,I gen,box,got],I me,I gen2,.bool up] w A (fun r w'=>zlJ zcC (zcy ⟨cl,at_,sent,gen,[],gl⟩ me gen2 up).1 (zcy ⟨cl,at_,sent,gen,[],gl⟩ me gen2 up).2.1 (zcy ⟨cl,at_,sent,gen,[],gl⟩ me gen2 up).2.2 r w'):=by
 unfold zaK;obtain ⟨ca,cc,rfl⟩:=zag hc.o;obtain ⟨ga,gc,rfl⟩:=zag hg.o;have EW:=zhd (Ext.refl w);obtain ⟨B,hB⟩:=zdF A w.heap.size 2;have HK:=zhd hB;clear hB;have HC:=zhd (hc.widen HK.o.1);have HB:=zhd (hb.widen HK.o.1);have HG:=zhd (hg.widen HK.o.1);clear hc hb hg;obtain ⟨ba,bc,rfl⟩:=zag HB.o.o;have hX0:zcy ⟨cl,at_,sent,gen,[],gl⟩ me gen2 up=if (cl.length:Int)<=at_ then (⟨cl,at_,sent,gen,[],gl⟩,[],11) else if ¬ up then (⟨cl,at_,sent,gen,[],gl⟩,[],10) else if sent/\gen=gen2 then (⟨cl,at_,sent,gen,[],gl⟩,[],12) else (⟨cl,at_,true,gen2,[],gl⟩,zbA ⟨me,at_,cl.getD at_.toNat ⟨0,0,0,0⟩⟩,0):=rfl;by_cases hat:(cl.length:Int)<=at_
 case pos =>
  rw [hX0,if_pos hat];clear hX0;go_enter Tryz.func34,Tryz.ntmps34
  go_wp2_with (with_reducible refine zT ?_)
  refine zaj rfl 55 (.tmp 0) rfl #[.slice ca cl.length cc,I at_,.bool sent,I gen,.slice ba 0 bc,.slice ga gl.length gc] rfl (fun b0 w1_ M1=>?_);have zab:=zmb M1;go_wp2_with (with_reducible refine zT ?_)
  refine zae rfl 55 zC (by kernel_rfl) (fun b1 w2_ M2=>?_);have zad:=zmb M2;have za0:=zA0 M1;have za2:=zA1 za0 M1 M2;have zat:=znb HK za2 (by decide);have zaZ:=zob za2;replace zab:=zmo M2 zab;have c0:=zaa (i:=0) zab.o rfl;have c1:=zaa (i:=1) zab.o rfl;have c2:=zaa (i:=2) zab.o rfl;have c3:=zaa (i:=3) zab.o rfl;have c4:=zaa (i:=4) zab.o rfl;go_wp2_with (with_reducible refine zT ?_)
  clear c0 c1 c2 c3 c4;refine zah rfl 55 (.tmp 4) rfl b0 rfl zab zbN zbI (fun v69 H_v69=>?_);go_wp2_with (with_reducible refine zT ?_)
  refine zac rfl 55 (.tmp 8) (.tmp 69) rfl b1 rfl _ (zcv H_v69) zad rfl zbI rfl (fun w3_ M3=>?_);replace zad:=zwb M3;go_wp2
  have z0:=zaq (P:=Tryz.prog) 55 zad.o zbN (by kernel_rfl);refine bodyPost_ret (by simp [results,Tryz.results34,asAddr,z0]; rfl) rfl ?_;replace HC:=zwr M3 (zme M2 (zme M1 HC)) zat;replace HB:=zwr M3 (zme M2 (zme M1 HB)) zat;replace HG:=zwr M3 (zme M2 (zme M1 HG)) zat;replace EW:=zwe M3 (zet (zet EW M1) M2) zaZ;exact ⟨_,rfl,EW.o,Rd.widen (A:=B) (zcM (zc0 (c:=⟨cl,at_,sent,gen,[],gl⟩) (HC.o) (HB.o) (HG.o)) (Rd.all fun w=>zbf w)) (fun k _ h=>HK.o.2.2.2 k h)⟩
 rw [hX0,if_neg hat];cases up
 case false =>
  rw [if_pos (by simp)];clear hX0;go_enter Tryz.func34,Tryz.ntmps34
  go_wp2_with (with_reducible refine zT ?_)
  refine zaj rfl 55 (.tmp 0) rfl #[.slice ca cl.length cc,I at_,.bool sent,I gen,.slice ba 0 bc,.slice ga gl.length gc] rfl (fun b0 w1_ M1=>?_);have zab:=zmb M1;go_wp2_with (with_reducible refine zT ?_)
  refine zae rfl 55 zC (by kernel_rfl) (fun b1 w2_ M2=>?_);have zad:=zmb M2;have za0:=zA0 M1;have za2:=zA1 za0 M1 M2;have zat:=znb HK za2 (by decide);have zaZ:=zob za2;replace zab:=zmo M2 zab;have c0:=zaa (i:=0) zab.o rfl;have c1:=zaa (i:=1) zab.o rfl;have c2:=zaa (i:=2) zab.o rfl;have c3:=zaa (i:=3) zab.o rfl;have c4:=zaa (i:=4) zab.o rfl;go_wp2_with (with_reducible refine zT ?_)
  clear c0 c1 c2 c3 c4;refine zah rfl 55 (.tmp 4) rfl b0 rfl zab zbN zbI (fun v72 H_v72=>?_);go_wp2_with (with_reducible refine zT ?_)
  refine zac rfl 55 (.tmp 8) (.tmp 72) rfl b1 rfl _ (zcv H_v72) zad rfl zbI rfl (fun w3_ M3=>?_);replace zad:=zwb M3;go_wp2
  have z0:=zaq (P:=Tryz.prog) 55 zad.o zbN (by kernel_rfl);refine bodyPost_ret (by simp [results,Tryz.results34,asAddr,z0]; rfl) rfl ?_;replace HC:=zwr M3 (zme M2 (zme M1 HC)) zat;replace HB:=zwr M3 (zme M2 (zme M1 HB)) zat;replace HG:=zwr M3 (zme M2 (zme M1 HG)) zat;replace EW:=zwe M3 (zet (zet EW M1) M2) zaZ;exact ⟨_,rfl,EW.o,Rd.widen (A:=B) (zcM (zc0 (c:=⟨cl,at_,sent,gen,[],gl⟩) (HC.o) (HB.o) (HG.o)) (Rd.all fun w=>zbf w)) (fun k _ h=>HK.o.2.2.2 k h)⟩
 rw [if_neg (by simp)];by_cases hsg:sent=true/\gen=gen2
 case pos =>
  rw [if_pos hsg];obtain ⟨rfl,rfl⟩:=hsg;clear hX0;go_enter Tryz.func34,Tryz.ntmps34
  go_wp2_with (with_reducible refine zT ?_)
  refine zaj rfl 55 (.tmp 0) rfl #[.slice ca cl.length cc,I at_,.bool true,I gen,.slice ba 0 bc,.slice ga gl.length gc] rfl (fun b0 w1_ M1=>?_);have zab:=zmb M1;go_wp2_with (with_reducible refine zT ?_)
  refine zae rfl 55 zC (by kernel_rfl) (fun b1 w2_ M2=>?_);have zad:=zmb M2;have za0:=zA0 M1;have za2:=zA1 za0 M1 M2;have zat:=znb HK za2 (by decide);have zaZ:=zob za2;replace zab:=zmo M2 zab;have c0:=zaa (i:=0) zab.o rfl;have c1:=zaa (i:=1) zab.o rfl;have c2:=zaa (i:=2) zab.o rfl;have c3:=zaa (i:=3) zab.o rfl;have c4:=zaa (i:=4) zab.o rfl;go_wp2_with (with_reducible refine zT ?_)
  clear c0 c1 c2 c3 c4;refine zah rfl 55 (.tmp 4) rfl b0 rfl zab zbN zbI (fun v81 H_v81=>?_);go_wp2_with (with_reducible refine zT ?_)
  refine zac rfl 55 (.tmp 8) (.tmp 81) rfl b1 rfl _ (zcv H_v81) zad rfl zbI rfl (fun w3_ M3=>?_);replace zad:=zwb M3;go_wp2
  have z0:=zaq (P:=Tryz.prog) 55 zad.o zbN (by kernel_rfl);refine bodyPost_ret (by simp [results,Tryz.results34,asAddr,z0]; rfl) rfl ?_;replace HC:=zwr M3 (zme M2 (zme M1 HC)) zat;replace HB:=zwr M3 (zme M2 (zme M1 HB)) zat;replace HG:=zwr M3 (zme M2 (zme M1 HG)) zat;replace EW:=zwe M3 (zet (zet EW M1) M2) zaZ;exact ⟨_,rfl,EW.o,Rd.widen (A:=B) (zcM (zc0 (c:=⟨cl,at_,true,gen,[],gl⟩) (HC.o) (HB.o) (HG.o)) (Rd.all fun w=>zbf w)) (fun k _ h=>HK.o.2.2.2 k h)⟩
 rw [if_neg hsg];clear hX0
 have hsel:(sent=false∨(sent=true/\(gen == gen2)=false)):=by
  cases sent
  ·exact .inl rfl
  ·exact .inr ⟨rfl,by simpa using hsg⟩
 clear hsg;obtain ⟨cx,hcx⟩:∃ x,cl[at_.toNat]?=some x:=⟨_,List.getElem?_eq_getElem (by omega)⟩;have hgd:cl.getD at_.toNat ⟨0,0,0,0⟩=cx:=by simp [hcx]
 rw [hgd];clear hgd;obtain ⟨ao,cap,e1,-,-,-,hform⟩:=HC.o.o.form (by decide);simp only [Value.slice.injEq,true_and] at e1;obtain ⟨rfl,rfl⟩:=e1;obtain ⟨xk,xa,xo,xn⟩:=cx;obtain ⟨cb,co,c4,rfl,-,hc4,hcell⟩:=hform _ _ hcx;have hc4:c4=[I xk,I xa,I xo,I xn]:=hc4;subst hc4;have HCELL:=zhd hcell;have hlt:at_ < (cl.length:Int):=by omega
 clear hcell hform hcx hat;obtain ⟨j,rfl⟩:∃ j:Nat,at_=(j:Int):=⟨at_.toNat,by omega⟩;simp only [Int.toNat_natCast] at HCELL;rcases hsel with rfl | ⟨rfl,hgn⟩
 ·go_enter Tryz.func34,Tryz.ntmps34
  go_wp2_with (with_reducible refine zT ?_)
  refine zaj rfl 55 (.tmp 0) rfl #[.slice (some ⟨cb,co,none⟩) cl.length cc,I j,.bool false,I gen,.slice ba 0 bc,.slice ga gl.length gc] rfl (fun b0 w1_ M1=>?_);have zab:=zmb M1;go_wp2_with (with_reducible refine zT ?_)
  refine zae rfl 55 zC (by kernel_rfl) (fun b1 w2_ M2=>?_);have zaw:=zld zab M2;have zad:=zmb M2;have za0:=zA0 M1;have zaF:=znb HK za0 (by decide);have zbm:=zob za0;have za2:=zA1 za0 M1 M2;have zat:=znb HK za2 (by decide);have zaZ:=zob za2;replace zab:=zmo M2 zab;have c0:=zaa (i:=0) zab.o rfl;have c1:=zaa (i:=1) zab.o rfl;have c2:=zaa (i:=2) zab.o rfl;have c3:=zaa (i:=3) zab.o rfl;have c4:=zaa (i:=4) zab.o rfl;go_wp2_with (with_reducible refine zT ?_)
  clear c0 c1 c2 c3 c4;refine zal rfl 4 (.tmp 83) (.const (.bool true)) rfl b0 2 rfl [.bool true] (rfl) zab rfl zi4 rfl [.slice (some ⟨cb,co,none⟩) cl.length cc,I j,.bool true,I gen,.slice ba 0 bc,.slice ga gl.length gc] rfl (fun w3_ M3=>?_);replace zab:=zwb M3;go_wp2_with (with_reducible refine zT ?_)
  refine zal rfl 3 (.tmp 84) (.tmp 82) rfl b0 3 rfl [I gen2] (rfl) zab rfl zi3 rfl [.slice (some ⟨cb,co,none⟩) cl.length cc,I j,.bool true,I gen2,.slice ba 0 bc,.slice ga gl.length gc] rfl (fun w4_ M4=>?_);replace zab:=zwb M4;go_wp2_with fail
  have hbx:=zab.o;have x0:=zaa (i:=0) hbx rfl;have x1:=zaa (i:=1) hbx rfl;replace EW:=zwe M4 (zwe M3 (zet (zet EW M1) M2) zbm) zbm;have y0:=EW.o.cell (HCELL.o 0 _ rfl);have y1:=EW.o.cell (HCELL.o 1 _ rfl);have y2:=EW.o.cell (HCELL.o 2 _ rfl);have y3:=EW.o.cell (HCELL.o 3 _ rfl);simp only [Nat.add_zero,<- Nat.add_assoc] at y0 y1 y2 y3;replace HC:=zwr M4 (zwr M3 (zme M2 (zme M1 HC)) zaF) zaF;replace HB:=zwr M4 (zwr M3 (zme M2 (zme M1 HB)) zaF) zaF;replace HG:=zwr M4 (zwr M3 (zme M2 (zme M1 HG)) zaF) zaF;replace zad:=zwg M4 (zwg M3 zad zaw) zaw;refine zan 12 [none,none,none,none,none,none,none,none,none,none,none,some (.inr fun v wx=>zdy w4_.heap.size wx v (zbA ⟨me,j,⟨xk,xa,xo,xn⟩⟩))] (by kernel_rfl) (by kernel_rfl) ?_ ?_
  ·exact ⟨trivial,trivial,trivial,trivial,trivial,trivial,trivial,trivial,trivial,trivial,trivial,zfp _ _,trivial⟩
  refine zay (.agg #[.slice (some ⟨cb,co,none⟩) cl.length cc,I j,.bool true,I gen2,.slice ba 0 bc,.slice ga gl.length gc]) rfl (fun w' hw'=>zbP 55 (.tmp 4) rfl b0 0 rfl (zbW hbx hw') [.slice (some ⟨cb,co,none⟩) cl.length cc,I j,.bool true,I gen2,.slice ba 0 bc,.slice ga gl.length gc] rfl zbN (by kernel_rfl)) ?_;refine zai fun K h=>?_; go_simp; refine h _ ?_; clear h K;(refine zap (fun K hK=>?_); go_simp; first | refine hK _ ?_ | refine ⟨(fun h=>by cases h),hK _ ?_⟩; clear hK K)
  (refine zap (fun K hK=>?_); go_simp; first | refine hK _ ?_ | refine ⟨(fun h=>by cases h),hK _ ?_⟩; clear hK K)
  refine zay (I j) rfl (fun w' hw'=>by have q0:=hw'.cell x1; go_simp) ?_;refine zai fun K h=>?_; go_simp; refine h _ ?_; clear h K;(refine zap (fun K hK=>?_); go_simp; first | refine hK _ ?_ | refine ⟨(fun h=>by cases h),hK _ ?_⟩; clear hK K)
  refine zay (.slice (some ⟨cb,co,none⟩) cl.length cc) rfl (fun w' hw'=>by have q0:=hw'.cell x0; go_simp) ?_;refine zai fun K h=>?_; go_simp; refine h _ ?_; clear h K;(refine zap (fun K hK=>?_); go_simp; first | refine hK _ ?_ | refine ⟨(fun h=>by cases h),hK _ ?_⟩; clear hK K)
  refine zay (I j) rfl (fun w' hw'=>by have q0:=hw'.cell x1; go_simp) ?_;refine zai fun K h=>?_; go_simp; refine h _ ?_; clear h K;(refine zap (fun K hK=>?_); go_simp; first | refine hK _ ?_ | refine ⟨(fun h=>by cases h),hK _ ?_⟩; clear hK K)
  refine zay (.agg #[I xk,I xa,I xo,I xn]) rfl (fun w' hw'=>by have q0:=hw'.cell y0; have q1:=hw'.cell y1; have q2:=hw'.cell y2; have q3:=hw'.cell y3; go_simp) ?_;refine zai fun K h=>?_; go_simp; refine h _ ?_; clear h K;(refine zap (fun K hK=>?_); go_simp; first | refine hK _ ?_ | refine ⟨(fun h=>by cases h),hK _ ?_⟩; clear hK K)
  refine zbb _ rfl (fun w' hw' hk=>?_) (fun v96=>?_)
  ·have hg:=zfU me j xk xa xo xn w';have hle:=hw'.size;clear hk;unfold zaQ;go_simp
   exact ⟨Ext.refl _,hg.mono fun _ _ _ ⟨b,o,n,c,e,hb,h⟩=>⟨b,o,n,c,e,Nat.le_trans hle hb,h⟩⟩
  refine zai fun K h=>?_; go_simp; refine h _ ?_; clear h K;refine zaP ?_;intro w9 e9 hX;have hby:zdy w4_.heap.size w9 v96 (zbA ⟨me,j,⟨xk,xa,xo,xn⟩⟩):=hX 96;clear hX x0 x1 y0 y1 y2 y3 hbx;have hsz:w.heap.size+2<=w4_.heap.size:=by have q:=(zlt zad); have q2:=za2.o; omega
  have HBY:=zhd (hby.rd.widen (B:=B) (fun k _ h=>HK.o.2.1 k (by omega)));clear hby hsz;show wpList _ _ _ [_,_,_] _ _
  go_wp2_with (with_reducible refine zT ?_)
  replace zad:=zbx zad e9;refine zac rfl 55 (.tmp 8) (.tmp 85) rfl b1 rfl [.slice (some ⟨cb,co,none⟩) cl.length cc,I j,.bool true,I gen2,.slice ba 0 bc,.slice ga gl.length gc] (rfl) zad rfl zbI rfl (fun w5_ M5=>?_);replace zad:=zwb M5;go_wp2
  have z0:=zaq (P:=Tryz.prog) 55 zad.o zbN (by kernel_rfl);refine bodyPost_ret (by simp [results,Tryz.results34,asAddr,z0]; rfl) rfl ?_;replace HC:=zwr M5 (zrx HC e9) zat;replace HB:=zwr M5 (zrx HB e9) zat;replace HG:=zwr M5 (zrx HG e9) zat;replace EW:=zwe M5 (zhd (EW.o.trans e9)) zaZ;replace HBY:=zwr M5 HBY zat;exact ⟨_,rfl,EW.o,Rd.widen (A:=B) (zcM (zc0 (c:=⟨cl,j,true,gen2,[],gl⟩) HC.o HB.o HG.o) HBY.o) (fun k _ h=>HK.o.2.2.2 k h)⟩
 ·go_enter Tryz.func34,Tryz.ntmps34
  go_wp2_with (with_reducible refine zT ?_)
  refine zaj rfl 55 (.tmp 0) rfl #[.slice (some ⟨cb,co,none⟩) cl.length cc,I j,.bool true,I gen,.slice ba 0 bc,.slice ga gl.length gc] rfl (fun b0 w1_ M1=>?_);have zab:=zmb M1;go_wp2_with (with_reducible refine zT ?_)
  refine zae rfl 55 zC (by kernel_rfl) (fun b1 w2_ M2=>?_);have zaw:=zld zab M2;have zad:=zmb M2;have za0:=zA0 M1;have zaF:=znb HK za0 (by decide);have zbm:=zob za0;have za2:=zA1 za0 M1 M2;have zat:=znb HK za2 (by decide);have zaZ:=zob za2;replace zab:=zmo M2 zab;have c0:=zaa (i:=0) zab.o rfl;have c1:=zaa (i:=1) zab.o rfl;have c2:=zaa (i:=2) zab.o rfl;have c3:=zaa (i:=3) zab.o rfl;have c4:=zaa (i:=4) zab.o rfl;go_wp2_with (with_reducible refine zT ?_)
  clear c0 c1 c2 c3 c4;refine zal rfl 4 (.tmp 83) (.const (.bool true)) rfl b0 2 rfl [.bool true] (rfl) zab rfl zi4 rfl [.slice (some ⟨cb,co,none⟩) cl.length cc,I j,.bool true,I gen,.slice ba 0 bc,.slice ga gl.length gc] rfl (fun w3_ M3=>?_);replace zab:=zwb M3;go_wp2_with (with_reducible refine zT ?_)
  refine zal rfl 3 (.tmp 84) (.tmp 82) rfl b0 3 rfl [I gen2] (rfl) zab rfl zi3 rfl [.slice (some ⟨cb,co,none⟩) cl.length cc,I j,.bool true,I gen2,.slice ba 0 bc,.slice ga gl.length gc] rfl (fun w4_ M4=>?_);replace zab:=zwb M4;go_wp2_with fail
  have hbx:=zab.o;have x0:=zaa (i:=0) hbx rfl;have x1:=zaa (i:=1) hbx rfl;replace EW:=zwe M4 (zwe M3 (zet (zet EW M1) M2) zbm) zbm;have y0:=EW.o.cell (HCELL.o 0 _ rfl);have y1:=EW.o.cell (HCELL.o 1 _ rfl);have y2:=EW.o.cell (HCELL.o 2 _ rfl);have y3:=EW.o.cell (HCELL.o 3 _ rfl);simp only [Nat.add_zero,<- Nat.add_assoc] at y0 y1 y2 y3;replace HC:=zwr M4 (zwr M3 (zme M2 (zme M1 HC)) zaF) zaF;replace HB:=zwr M4 (zwr M3 (zme M2 (zme M1 HB)) zaF) zaF;replace HG:=zwr M4 (zwr M3 (zme M2 (zme M1 HG)) zaF) zaF;replace zad:=zwg M4 (zwg M3 zad zaw) zaw;refine zan 12 [none,none,none,none,none,none,none,none,none,none,none,some (.inr fun v wx=>zdy w4_.heap.size wx v (zbA ⟨me,j,⟨xk,xa,xo,xn⟩⟩))] (by kernel_rfl) (by kernel_rfl) ?_ ?_
  ·exact ⟨trivial,trivial,trivial,trivial,trivial,trivial,trivial,trivial,trivial,trivial,trivial,zfp _ _,trivial⟩
  refine zay (.agg #[.slice (some ⟨cb,co,none⟩) cl.length cc,I j,.bool true,I gen2,.slice ba 0 bc,.slice ga gl.length gc]) rfl (fun w' hw'=>zbP 55 (.tmp 4) rfl b0 0 rfl (zbW hbx hw') [.slice (some ⟨cb,co,none⟩) cl.length cc,I j,.bool true,I gen2,.slice ba 0 bc,.slice ga gl.length gc] rfl zbN (by kernel_rfl)) ?_;refine zai fun K h=>?_; go_simp; refine h _ ?_; clear h K;(refine zap (fun K hK=>?_); go_simp; first | refine hK _ ?_ | refine ⟨(fun h=>by cases h),hK _ ?_⟩; clear hK K)
  (refine zap (fun K hK=>?_); go_simp; first | refine hK _ ?_ | refine ⟨(fun h=>by cases h),hK _ ?_⟩; clear hK K)
  refine zay (I j) rfl (fun w' hw'=>by have q0:=hw'.cell x1; go_simp) ?_;refine zai fun K h=>?_; go_simp; refine h _ ?_; clear h K;(refine zap (fun K hK=>?_); go_simp; first | refine hK _ ?_ | refine ⟨(fun h=>by cases h),hK _ ?_⟩; clear hK K)
  refine zay (.slice (some ⟨cb,co,none⟩) cl.length cc) rfl (fun w' hw'=>by have q0:=hw'.cell x0; go_simp) ?_;refine zai fun K h=>?_; go_simp; refine h _ ?_; clear h K;(refine zap (fun K hK=>?_); go_simp; first | refine hK _ ?_ | refine ⟨(fun h=>by cases h),hK _ ?_⟩; clear hK K)
  refine zay (I j) rfl (fun w' hw'=>by have q0:=hw'.cell x1; go_simp) ?_;refine zai fun K h=>?_; go_simp; refine h _ ?_; clear h K;(refine zap (fun K hK=>?_); go_simp; first | refine hK _ ?_ | refine ⟨(fun h=>by cases h),hK _ ?_⟩; clear hK K)
  refine zay (.agg #[I xk,I xa,I xo,I xn]) rfl (fun w' hw'=>by have q0:=hw'.cell y0; have q1:=hw'.cell y1; have q2:=hw'.cell y2; have q3:=hw'.cell y3; go_simp) ?_;refine zai fun K h=>?_; go_simp; refine h _ ?_; clear h K;(refine zap (fun K hK=>?_); go_simp; first | refine hK _ ?_ | refine ⟨(fun h=>by cases h),hK _ ?_⟩; clear hK K)
  refine zbb _ rfl (fun w' hw' hk=>?_) (fun v96=>?_)
  ·have hg:=zfU me j xk xa xo xn w';have hle:=hw'.size;clear hk;unfold zaQ;go_simp
   exact ⟨Ext.refl _,hg.mono fun _ _ _ ⟨b,o,n,c,e,hb,h⟩=>⟨b,o,n,c,e,Nat.le_trans hle hb,h⟩⟩
  refine zai fun K h=>?_; go_simp; refine h _ ?_; clear h K;refine zaP ?_;intro w9 e9 hX;have hby:zdy w4_.heap.size w9 v96 (zbA ⟨me,j,⟨xk,xa,xo,xn⟩⟩):=hX 96;clear hX x0 x1 y0 y1 y2 y3 hbx;have hsz:w.heap.size+2<=w4_.heap.size:=by have q:=(zlt zad); have q2:=za2.o; omega
  have HBY:=zhd (hby.rd.widen (B:=B) (fun k _ h=>HK.o.2.1 k (by omega)));clear hby hsz;show wpList _ _ _ [_,_,_] _ _
  go_wp2_with (with_reducible refine zT ?_)
  replace zad:=zbx zad e9;refine zac rfl 55 (.tmp 8) (.tmp 85) rfl b1 rfl [.slice (some ⟨cb,co,none⟩) cl.length cc,I j,.bool true,I gen2,.slice ba 0 bc,.slice ga gl.length gc] (rfl) zad rfl zbI rfl (fun w5_ M5=>?_);replace zad:=zwb M5;go_wp2
  have z0:=zaq (P:=Tryz.prog) 55 zad.o zbN (by kernel_rfl);refine bodyPost_ret (by simp [results,Tryz.results34,asAddr,z0]; rfl) rfl ?_;replace HC:=zwr M5 (zrx HC e9) zat;replace HB:=zwr M5 (zrx HB e9) zat;replace HG:=zwr M5 (zrx HG e9) zat;replace EW:=zwe M5 (zhd (EW.o.trans e9)) zaZ;replace HBY:=zwr M5 HBY zat;exact ⟨_,rfl,EW.o,Rd.widen (A:=B) (zcM (zc0 (c:=⟨cl,j,true,gen2,[],gl⟩) HC.o HB.o HG.o) HBY.o) (fun k _ h=>HK.o.2.2.2 k h)⟩

open Go.RowKit Go.Mk

theorem Tryz.infoRp:(Tryz.prog.info? 39).map (fun i=>(i.zero,i.size,i.bytes))=some (some (.agg #[.int .i64 0,.int .i64 0]),2,16):=by kernel_rfl

theorem ziG (cl:List Cl) (at_:Int) (sent:Bool) (gen:Int) (b:List UInt8) (l:List (List UInt8)) (gl:List Rp) (calls box got:Value) (me gen2:Int) (up:Bool) (w:World) (A:Nat->Prop)
  (hc:Rd A (fun w=>zas 4 zdw w calls cl) w) (hb:Rd A (fun w=>zas 1 zcc w box (b::l)) w) (hg:Rd A (fun w=>zas 2 zd6 w got gl) w) (h0:0<=at_) (h1:at_<=1000000) (hgl:gl.length<=1000) :
  zaK Tryz.prog 34 #[.agg #[calls,I at_,.bool sent,I gen,box,got],I me,I gen2,.bool up] w A (fun r w'=>zlJ zcC (zcy ⟨cl,at_,sent,gen,(b::l),gl⟩ me gen2 up).1 (zcy ⟨cl,at_,sent,gen,(b::l),gl⟩ me gen2 up).2.1 (zcy ⟨cl,at_,sent,gen,(b::l),gl⟩ me gen2 up).2.2 r w'):=by
 unfold zaK;obtain ⟨ca,cc,rfl⟩:=zag hc.o;obtain ⟨ga,gc,rfl⟩:=zag hg.o;have EW:=zhd (Ext.refl w);obtain ⟨B,hB⟩:=zdF A w.heap.size 2;have HK:=zhd hB;clear hB;have HC:=zhd (hc.widen HK.o.1);have HG:=zhd (hg.widen HK.o.1);obtain ⟨xb,xo,xc,bv,rfl,hx1,hx2,hf,hrest⟩:=zg8 (hb.widen HK.o.1);have HF:=zhd hf;have HB:=zhd hrest;have HGL:=zhd hgl;unfold maxLen at hx2;clear hc hb hg hf hrest hgl;obtain ⟨⟨ac,at2,⟨re,rn⟩⟩,ae,hRA⟩:∃ x y,readAn b=(x,y):=⟨_,_,rfl⟩;have HRA:=zhd hRA
 have hX0:zcy ⟨cl,at_,sent,gen,(b::l),gl⟩ me gen2 up=if ae=0/\ac=me/\at2=at_/\sent=true then (⟨cl,at_+1,false,gen,l,gl++[⟨re,rn⟩]⟩,[],0) else (⟨cl,at_,sent,gen,l,gl⟩,[],0):=by
  show (if (readAn b).2=0/\(readAn b).1.client=me/\(readAn b).1.token=at_/\sent=true then _ else _)=_
  rw [hRA]
 clear hRA;obtain ⟨RC,RB,RE,hR⟩:∃ x y z,zcy ⟨cl,at_,sent,gen,(b::l),gl⟩ me gen2 up=(x,y,z):=⟨_,_,_,rfl⟩;rw [hR];rw [hR] at hX0;have HX:=zhd hX0;clear hX0 hR;by_cases hcap:xc=1
 case pos =>
  obtain rfl:l=[]:=List.eq_nil_of_length_eq_zero (by omega);subst hcap;simp only [List.length_nil,Nat.zero_add] at *;replace HB:=zhd (Rd.all (A:=B) (w:=w) fun w=>zfm (size:=1) (R:=zcc) w xb xo 0 (by decide));go_enter Tryz.func34,Tryz.ntmps34
  go_wp2_with (with_reducible refine zT ?_)
  refine zaj rfl 55 (.tmp 0) rfl #[.slice ca cl.length cc,I at_,.bool sent,I gen,.slice (some ⟨xb,xo,none⟩) 1 1,.slice ga gl.length gc] rfl (fun b0 w1_ M1=>?_);have zab:=zmb M1;go_wp2_with (with_reducible refine zT ?_)
  refine zae rfl 55 zC (by kernel_rfl) (fun b1 w2_ M2=>?_);have zaw:=zld zab M2;have zad:=zmb M2;have za0:=zA0 M1;have zaF:=znb HK za0 (by decide);have zbm:=zob za0;have za2:=zA1 za0 M1 M2;have zat:=znb HK za2 (by decide);have zaZ:=zob za2;replace zab:=zmo M2 zab;have c4:=zaa (i:=4) zab.o rfl;replace HF:=zme M2 (zme M1 HF);have cx:=HF.o.o.1;go_wp2_with fail
  clear c4 cx;have hl:=zfj bv b w2_ HF.o.o.2;rw [HRA.o] at hl;refine Calls.exts hl (fun wa ea=>?_);clear hl;go_wp2_with (with_reducible refine zT ?_)
  refine zae rfl 97 #[I 0,I 0,I 0,I 0] (by kernel_rfl) (fun b2 w3_ M3=>?_);replace zab:=zbx zab ea;have zaU:=zld zab M3;replace zad:=zbx zad ea;have zaI:=zld zad M3;obtain ⟨B1,HB1⟩:=zEx B b2;have zaO:=zNn HB1;have zgp:=zIn HB1;replace EW:=zhd ((zet (zet EW M1) M2).o.trans ea);have zbp:=zOn M3 EW;have zak:=zmb M3;go_wp2_with (with_reducible refine zT ?_)
  refine zac rfl 97 (.tmp 11) (.tmp 23) rfl b2 rfl [I ac,I at2,I re,I rn] (rfl) zak rfl zoc rfl (fun w4_ M4=>?_);replace zak:=zwb M4;replace zab:=zwl M4 (zmo M3 zab) zaU;have c4:=zaa (i:=4) zab.o rfl;go_wp2_with (with_reducible refine zT ?_)
  clear c4;refine zal rfl 32 (.tmp 28) (.tmp 27) rfl b0 4 rfl [.slice (some ⟨xb,xo,none⟩) 0 0] (rfl) zab rfl zlu rfl [.slice ca cl.length cc,I at_,.bool sent,I gen,.slice (some ⟨xb,xo,none⟩) 0 0,.slice ga gl.length gc] rfl (fun w5_ M5=>?_);replace zab:=zwb M5;replace zaF:=znw HB1 zaF;replace HC:=zwr M5 (zwr M4 (zme M3 (zmd HB1 M3 (zrx (zme M2 (zme M1 HC)) ea))) zaO) zaF;replace HB:=zwr M5 (zwr M4 (zme M3 (zmd HB1 M3 (zrx (zme M2 (zme M1 HB)) ea))) zaO) zaF;replace HG:=zwr M5 (zwr M4 (zme M3 (zmd HB1 M3 (zrx (zme M2 (zme M1 HG)) ea))) zaO) zaF;replace HF:=zwr M5 (zwr M4 (zme M3 (zmd HB1 M3 (zrx HF ea))) zaO) zaF;replace zat:=znw HB1 zat;replace zad:=zwg M5 (zwl M4 (zmo M3 zad) zaI) zaw;replace EW:=zwe M5 (zwe M4 (zet EW M3) zbp) zbm;replace zak:=zwg M5 zak zaU;by_cases a1:ae=0
  case neg =>
   have hb_a1:(ae == 0)=false:=by simpa using a1
   have HA:=zhd a1;clear a1;have d0:=zaa (i:=0) zak.o rfl;have d1:=zaa (i:=1) zak.o rfl;have c1:=zaa (i:=1) zab.o rfl;have c2:=zaa (i:=2) zab.o rfl;go_wp2_with (with_reducible refine zT ?_)
   clear d0 d1 c1 c2;refine zah rfl 55 (.tmp 4) rfl b0 rfl zab zbN zbI (fun v62 H_v62=>?_);go_wp2_with (with_reducible refine zT ?_)
   refine zac rfl 55 (.tmp 8) (.tmp 62) rfl b1 rfl _ (zcv H_v62) zad rfl zbI rfl (fun w6_ M6=>?_);replace zad:=zwb M6;go_wp2
   have z0:=zaq (P:=Tryz.prog) 55 zad.o zbN (by kernel_rfl);refine bodyPost_ret (by simp [results,Tryz.results34,asAddr,z0]; rfl) rfl ?_;have hres:=HX.o;rw [if_neg (fun h=>HA.o h.1)] at hres;obtain ⟨h1,h2⟩:=Prod.mk.inj hres;obtain ⟨h3,h4⟩:=Prod.mk.inj h2;subst h4;subst h3;subst h1;replace HC:=zwr M6 HC zat;replace HB:=zwr M6 HB zat;replace HG:=zwr M6 HG zat;replace EW:=zwe M6 EW zaZ;exact ⟨_,rfl,EW.o,Rd.widen (A:=B1) (zcM (zc0 (c:=⟨cl,at_,sent,gen,[],gl⟩) HC.o HB.o HG.o) (Rd.all fun w=>zbf w)) (fun k _ h=>HK.o.2.2.2 k (zgp.o k h))⟩
  subst a1;by_cases a2:ac=me
  case neg =>
   have hb_a2:(ac == me)=false:=by simpa using a2
   have HA:=zhd a2;clear a2;have d0:=zaa (i:=0) zak.o rfl;have d1:=zaa (i:=1) zak.o rfl;have c1:=zaa (i:=1) zab.o rfl;have c2:=zaa (i:=2) zab.o rfl;go_wp2_with (with_reducible refine zT ?_)
   clear d0 d1 c1 c2;refine zah rfl 55 (.tmp 4) rfl b0 rfl zab zbN zbI (fun v62 H_v62=>?_);go_wp2_with (with_reducible refine zT ?_)
   refine zac rfl 55 (.tmp 8) (.tmp 62) rfl b1 rfl _ (zcv H_v62) zad rfl zbI rfl (fun w6_ M6=>?_);replace zad:=zwb M6;go_wp2
   have z0:=zaq (P:=Tryz.prog) 55 zad.o zbN (by kernel_rfl);refine bodyPost_ret (by simp [results,Tryz.results34,asAddr,z0]; rfl) rfl ?_;have hres:=HX.o;rw [if_neg (fun h=>HA.o h.2.1)] at hres;obtain ⟨h1,h2⟩:=Prod.mk.inj hres;obtain ⟨h3,h4⟩:=Prod.mk.inj h2;subst h4;subst h3;subst h1;replace HC:=zwr M6 HC zat;replace HB:=zwr M6 HB zat;replace HG:=zwr M6 HG zat;replace EW:=zwe M6 EW zaZ;exact ⟨_,rfl,EW.o,Rd.widen (A:=B1) (zcM (zc0 (c:=⟨cl,at_,sent,gen,[],gl⟩) HC.o HB.o HG.o) (Rd.all fun w=>zbf w)) (fun k _ h=>HK.o.2.2.2 k (zgp.o k h))⟩
  subst a2;by_cases a3:at2=at_
  case neg =>
   have hb_a3:(at2 == at_)=false:=by simpa using a3
   have HA:=zhd a3;clear a3;have d0:=zaa (i:=0) zak.o rfl;have d1:=zaa (i:=1) zak.o rfl;have c1:=zaa (i:=1) zab.o rfl;have c2:=zaa (i:=2) zab.o rfl;go_wp2_with (with_reducible refine zT ?_)
   clear d0 d1 c1 c2;refine zah rfl 55 (.tmp 4) rfl b0 rfl zab zbN zbI (fun v62 H_v62=>?_);go_wp2_with (with_reducible refine zT ?_)
   refine zac rfl 55 (.tmp 8) (.tmp 62) rfl b1 rfl _ (zcv H_v62) zad rfl zbI rfl (fun w6_ M6=>?_);replace zad:=zwb M6;go_wp2
   have z0:=zaq (P:=Tryz.prog) 55 zad.o zbN (by kernel_rfl);refine bodyPost_ret (by simp [results,Tryz.results34,asAddr,z0]; rfl) rfl ?_;have hres:=HX.o;rw [if_neg (fun h=>HA.o h.2.2.1)] at hres;obtain ⟨h1,h2⟩:=Prod.mk.inj hres;obtain ⟨h3,h4⟩:=Prod.mk.inj h2;subst h4;subst h3;subst h1;replace HC:=zwr M6 HC zat;replace HB:=zwr M6 HB zat;replace HG:=zwr M6 HG zat;replace EW:=zwe M6 EW zaZ;exact ⟨_,rfl,EW.o,Rd.widen (A:=B1) (zcM (zc0 (c:=⟨cl,at_,sent,gen,[],gl⟩) HC.o HB.o HG.o) (Rd.all fun w=>zbf w)) (fun k _ h=>HK.o.2.2.2 k (zgp.o k h))⟩
  replace a3:=a3.symm;subst a3;cases sent
  case false =>
   have d0:=zaa (i:=0) zak.o rfl;have d1:=zaa (i:=1) zak.o rfl;have c1:=zaa (i:=1) zab.o rfl;have c2:=zaa (i:=2) zab.o rfl;go_wp2_with (with_reducible refine zT ?_)
   clear d0 d1 c1 c2;refine zah rfl 55 (.tmp 4) rfl b0 rfl zab zbN zbI (fun v62 H_v62=>?_);go_wp2_with (with_reducible refine zT ?_)
   refine zac rfl 55 (.tmp 8) (.tmp 62) rfl b1 rfl _ (zcv H_v62) zad rfl zbI rfl (fun w6_ M6=>?_);replace zad:=zwb M6;go_wp2
   have z0:=zaq (P:=Tryz.prog) 55 zad.o zbN (by kernel_rfl);refine bodyPost_ret (by simp [results,Tryz.results34,asAddr,z0]; rfl) rfl ?_;have hres:=HX.o;rw [if_neg (fun h=>by cases h.2.2.2)] at hres;obtain ⟨h1,h2⟩:=Prod.mk.inj hres;obtain ⟨h3,h4⟩:=Prod.mk.inj h2;subst h4;subst h3;subst h1;replace HC:=zwr M6 HC zat;replace HB:=zwr M6 HB zat;replace HG:=zwr M6 HG zat;replace EW:=zwe M6 EW zaZ;exact ⟨_,rfl,EW.o,Rd.widen (A:=B1) (zcM (zc0 (c:=⟨cl,at_,false,gen,[],gl⟩) HC.o HB.o HG.o) (Rd.all fun w=>zbf w)) (fun k _ h=>HK.o.2.2.2 k (zgp.o k h))⟩
  have d0:=zaa (i:=0) zak.o rfl;have d1:=zaa (i:=1) zak.o rfl;have c1:=zaa (i:=1) zab.o rfl;have c2:=zaa (i:=2) zab.o rfl;go_wp2_with fail
  clear d0 d1 c1 c2;have hbx:=zab.o;have hby:=zak.o;have x5:=zaa (i:=5) hbx rfl;have y2:=zaa (i:=2) hby rfl;have y3:=zaa (i:=3) hby rfl;obtain ⟨i0,hi,hz0,hz1,hz2⟩:=info_parts Tryz.infoRp;have HI:=zhd hi;clear hi;refine zcA 7 [some (.inr (zdr w5_.heap.size 39 2 0 [])),none,none,some (.inr fun v wx=>wx.ownsRow w5_.heap.size 39 2 v (0+gl.length) ([]++zbU gl)),none,none,some (.inr fun v wx=>Row wx 2 v 1 (zbU [⟨re,rn⟩]))] (fun v wx=>wx.ownsRow w5_.heap.size 39 2 v (0+gl.length+1) ([]++zbU gl++zbU [⟨re,rn⟩])) (by kernel_rfl) (by kernel_rfl) (by kernel_rfl) ?_ (fun v=>zct _ _ _ _ _ v) ?_
  ·exact ⟨zgS _ _ _ _ _,trivial,trivial,zct _ _ _ _ _,trivial,trivial,fun _ _ _ he h=>Row.ext h he,trivial⟩
  refine zbb _ rfl (fun w' hw' hk=>?_) (fun v48=>?_)
  ·have hsz:=hw'.size;clear hk;unfold zaQ;go_simp
   exact ⟨(Ext.refl _).alloc _,zfM #[] 0 hsz (by decide) rfl⟩
  refine zai fun K h=>?_; go_simp; refine h _ ?_; clear h K;(refine zap (fun K hK=>?_); go_simp; first | refine hK _ ?_ | refine ⟨(fun h=>by cases h),hK _ ?_⟩; clear hK K)
  refine zay (.slice ga gl.length gc) rfl (fun w' hw'=>by have q0:=hw'.cell x5; go_simp) ?_;refine zai fun K h=>?_; go_simp; refine h _ ?_; clear h K;refine zbb _ rfl (fun w' hw' hk=>?_) (fun v51=>?_)
  ·have h48:zdr w5_.heap.size 39 2 0 [] v48 w':=hk 48 (by decide);obtain ⟨vv,ww,hrun,hoo,hee⟩:=zcf (P:=Tryz.prog) w' w5_.heap.size 53 53 39 i0 _ 2 16 znK HI.o hz0 hz1 hz2 rfl (by decide) v48 0 _ h48 (.slice ga gl.length gc) gl.length _ ((zhe.1 HG.o.o).ext hw') (ze8 _) (by have:=HGL.o; omega) (by decide) hw'.size;exact zdc rfl rfl rfl hrun hee hoo
  refine zai fun K h=>?_; go_simp; refine h _ ?_; clear h K;(refine zap (fun K hK=>?_); go_simp; first | refine hK _ ?_ | refine ⟨(fun h=>by cases h),hK _ ?_⟩; clear hK K)
  refine zay (.agg #[I re,I rn]) rfl (fun w' hw'=>by have q0:=hw'.cell y2; have q1:=hw'.cell y3; go_simp) ?_;refine zai fun K h=>?_; go_simp; refine h _ ?_; clear h K;refine zbb _ rfl (fun w' hw' hk=>?_) (fun v54=>?_)
  ·skip;clear hk;unfold zaQ;go_simp
   exact ⟨(Ext.refl _).alloc _,Row.of_owns (World.ownsRow_lit (base:=0) (size:=2) w' _ 1 (Nat.zero_le _) (by decide) rfl)⟩
  refine zai fun K h=>?_; go_simp; refine h _ ?_; clear h K;refine zaP ⟨_,_,rfl,rfl,rfl,fun w' hw' hk=>?_,fun v55 w9 e9 ho9=>?_⟩
  ·have h51:w'.ownsRow w5_.heap.size 39 2 v51 (0+gl.length) ([]++zbU gl):=hk 51 (by decide);have h54:Row w' 2 v54 1 (zbU [⟨re,rn⟩]):=hk 54 (by decide);obtain ⟨vv,ww,hrun,hoo,hgg⟩:=zcs (P:=Tryz.prog) w' w5_.heap.size 53 53 39 i0 _ 2 16 znK HI.o hz0 hz1 hz2 rfl (by decide) v51 _ _ h51 v54 1 _ h54 (ze8 _) (by have:=HGL.o; omega) (by decide) hw'.size;exact ⟨vv,ww,zdR rfl rfl rfl hrun,hw'.grown hgg (fun j hj=>(h51.lt j hj).1),hoo⟩
  clear x5 y2 y3 hbx hby;have hro:Rd (fun k=>w5_.heap.size<=k) (fun w=>zas 2 zd6 w v55 (gl++[⟨re,rn⟩])) w9:=zgN (by simpa [zfu] using ho9);obtain ⟨qa,qc,hqs⟩:=zag hro.o;rw [show (gl++[(⟨re,rn⟩:Rp)]).length=gl.length+1 by simp] at hqs;subst hqs;have hsz:w.heap.size+2<=w5_.heap.size:=by have q:=(zlt zad); have q2:=za2.o; omega
  have hsz2:b2 < w5_.heap.size:=(zlt zak);have HRO:=zhd (hro.widen (B:=B1) (fun k _ h=>(HB1.o k).2 ⟨HK.o.2.1 k (by omega),by omega⟩));clear hro ho9 hsz hsz2;show wpList _ _ _ [_,_] _ _
  go_wp2_with (with_reducible refine zT ?_)
  replace zab:=zbx zab e9;refine zal rfl 53 (.tmp 56) (.tmp 55) rfl b0 5 rfl [.slice qa (gl.length+1) qc] (rfl) zab rfl zsa rfl [.slice ca cl.length cc,I at_,.bool true,I gen,.slice (some ⟨xb,xo,none⟩) 0 0,.slice qa (gl.length+1) qc] rfl (fun w6_ M6=>?_);replace zab:=zwb M6;have c1:=zaa (i:=1) zab.o rfl;go_wp2_with (with_reducible refine zT ?_)
  clear c1;refine zal rfl 3 (.tmp 60) (.tmp 59) rfl b0 1 rfl [I (at_+1)] (rfl) zab rfl zi3 rfl [.slice ca cl.length cc,I (at_+1),.bool true,I gen,.slice (some ⟨xb,xo,none⟩) 0 0,.slice qa (gl.length+1) qc] rfl (fun w7_ M7=>?_);replace zab:=zwb M7;go_wp2_with (with_reducible refine zT ?_)
  refine zal rfl 4 (.tmp 61) (.const (.bool false)) rfl b0 2 rfl [.bool false] (rfl) zab rfl zi4 rfl [.slice ca cl.length cc,I (at_+1),.bool false,I gen,.slice (some ⟨xb,xo,none⟩) 0 0,.slice qa (gl.length+1) qc] rfl (fun w8_ M8=>?_);replace zab:=zwb M8;go_wp2_with (with_reducible refine zT ?_)
  refine zah rfl 55 (.tmp 4) rfl b0 rfl zab zbN zbI (fun v62 H_v62=>?_);go_wp2_with (with_reducible refine zT ?_)
  replace zad:=zwg M8 (zwg M7 (zwg M6 (zbx zad e9) zaw) zaw) zaw;refine zac rfl 55 (.tmp 8) (.tmp 62) rfl b1 rfl _ (zcv H_v62) zad rfl zbI rfl (fun w9_ M9=>?_);replace zad:=zwb M9;go_wp2
  have z0:=zaq (P:=Tryz.prog) 55 zad.o zbN (by kernel_rfl);refine bodyPost_ret (by simp [results,Tryz.results34,asAddr,z0]; rfl) rfl ?_;have hres:=HX.o;rw [if_pos (by simp)] at hres;obtain ⟨h1,h2⟩:=Prod.mk.inj hres;obtain ⟨h3,h4⟩:=Prod.mk.inj h2;subst h4;subst h3;subst h1;replace HC:=zwr M9 (zwr M8 (zwr M7 (zwr M6 (zrx HC e9) zaF) zaF) zaF) zat;replace HB:=zwr M9 (zwr M8 (zwr M7 (zwr M6 (zrx HB e9) zaF) zaF) zaF) zat;replace EW:=zwe M9 (zwe M8 (zwe M7 (zwe M6 (zhd (EW.o.trans e9)) zbm) zbm) zbm) zaZ;replace HRO:=zwr M9 (zwr M8 (zwr M7 (zwr M6 HRO zaF) zaF) zaF) zat;exact ⟨_,rfl,EW.o,Rd.widen (A:=B1) (zcM (zc0 (c:=⟨cl,(at_+1),false,gen,[],(gl++[⟨re,rn⟩])⟩) HC.o HB.o HRO.o) (Rd.all fun w=>zbf w)) (fun k _ h=>HK.o.2.2.2 k (zgp.o k h))⟩
 go_enter Tryz.func34,Tryz.ntmps34
 go_wp2_with (with_reducible refine zT ?_)
 refine zaj rfl 55 (.tmp 0) rfl #[.slice ca cl.length cc,I at_,.bool sent,I gen,.slice (some ⟨xb,xo,none⟩) (l.length+1) xc,.slice ga gl.length gc] rfl (fun b0 w1_ M1=>?_);have zab:=zmb M1;go_wp2_with (with_reducible refine zT ?_)
 refine zae rfl 55 zC (by kernel_rfl) (fun b1 w2_ M2=>?_);have zaw:=zld zab M2;have zad:=zmb M2;have za0:=zA0 M1;have zaF:=znb HK za0 (by decide);have zbm:=zob za0;have za2:=zA1 za0 M1 M2;have zat:=znb HK za2 (by decide);have zaZ:=zob za2;replace zab:=zmo M2 zab;have c4:=zaa (i:=4) zab.o rfl;replace HF:=zme M2 (zme M1 HF);have cx:=HF.o.o.1;go_wp2_with fail
 clear c4 cx;have hl:=zfj bv b w2_ HF.o.o.2;rw [HRA.o] at hl;refine Calls.exts hl (fun wa ea=>?_);clear hl;go_wp2_with (with_reducible refine zT ?_)
 refine zae rfl 97 #[I 0,I 0,I 0,I 0] (by kernel_rfl) (fun b2 w3_ M3=>?_);replace zab:=zbx zab ea;have zaU:=zld zab M3;replace zad:=zbx zad ea;have zaI:=zld zad M3;obtain ⟨B1,HB1⟩:=zEx B b2;have zaO:=zNn HB1;have zgp:=zIn HB1;replace EW:=zhd ((zet (zet EW M1) M2).o.trans ea);have zbp:=zOn M3 EW;have zak:=zmb M3;go_wp2_with (with_reducible refine zT ?_)
 refine zac rfl 97 (.tmp 11) (.tmp 23) rfl b2 rfl [I ac,I at2,I re,I rn] (rfl) zak rfl zoc rfl (fun w4_ M4=>?_);replace zak:=zwb M4;replace zab:=zwl M4 (zmo M3 zab) zaU;have c4:=zaa (i:=4) zab.o rfl;go_wp2_with (with_reducible refine zT ?_)
 clear c4;refine zal rfl 32 (.tmp 28) (.tmp 27) rfl b0 4 rfl [.slice (some ⟨xb,xo+1,none⟩) l.length (xc - 1)] (rfl) zab rfl zlu rfl [.slice ca cl.length cc,I at_,.bool sent,I gen,.slice (some ⟨xb,xo+1,none⟩) l.length (xc - 1),.slice ga gl.length gc] rfl (fun w5_ M5=>?_);replace zab:=zwb M5;replace zaF:=znw HB1 zaF;replace HC:=zwr M5 (zwr M4 (zme M3 (zmd HB1 M3 (zrx (zme M2 (zme M1 HC)) ea))) zaO) zaF;replace HB:=zwr M5 (zwr M4 (zme M3 (zmd HB1 M3 (zrx (zme M2 (zme M1 HB)) ea))) zaO) zaF;replace HG:=zwr M5 (zwr M4 (zme M3 (zmd HB1 M3 (zrx (zme M2 (zme M1 HG)) ea))) zaO) zaF;replace HF:=zwr M5 (zwr M4 (zme M3 (zmd HB1 M3 (zrx HF ea))) zaO) zaF;replace zat:=znw HB1 zat;replace zad:=zwg M5 (zwl M4 (zmo M3 zad) zaI) zaw;replace EW:=zwe M5 (zwe M4 (zet EW M3) zbp) zbm;replace zak:=zwg M5 zak zaU;by_cases a1:ae=0
 case neg =>
  have hb_a1:(ae == 0)=false:=by simpa using a1
  have HA:=zhd a1;clear a1;have d0:=zaa (i:=0) zak.o rfl;have d1:=zaa (i:=1) zak.o rfl;have c1:=zaa (i:=1) zab.o rfl;have c2:=zaa (i:=2) zab.o rfl;go_wp2_with (with_reducible refine zT ?_)
  clear d0 d1 c1 c2;refine zah rfl 55 (.tmp 4) rfl b0 rfl zab zbN zbI (fun v62 H_v62=>?_);go_wp2_with (with_reducible refine zT ?_)
  refine zac rfl 55 (.tmp 8) (.tmp 62) rfl b1 rfl _ (zcv H_v62) zad rfl zbI rfl (fun w6_ M6=>?_);replace zad:=zwb M6;go_wp2
  have z0:=zaq (P:=Tryz.prog) 55 zad.o zbN (by kernel_rfl);refine bodyPost_ret (by simp [results,Tryz.results34,asAddr,z0]; rfl) rfl ?_;have hres:=HX.o;rw [if_neg (fun h=>HA.o h.1)] at hres;obtain ⟨h1,h2⟩:=Prod.mk.inj hres;obtain ⟨h3,h4⟩:=Prod.mk.inj h2;subst h4;subst h3;subst h1;replace HC:=zwr M6 HC zat;replace HB:=zwr M6 HB zat;replace HG:=zwr M6 HG zat;replace EW:=zwe M6 EW zaZ;exact ⟨_,rfl,EW.o,Rd.widen (A:=B1) (zcM (zc0 (c:=⟨cl,at_,sent,gen,l,gl⟩) HC.o HB.o HG.o) (Rd.all fun w=>zbf w)) (fun k _ h=>HK.o.2.2.2 k (zgp.o k h))⟩
 subst a1;by_cases a2:ac=me
 case neg =>
  have hb_a2:(ac == me)=false:=by simpa using a2
  have HA:=zhd a2;clear a2;have d0:=zaa (i:=0) zak.o rfl;have d1:=zaa (i:=1) zak.o rfl;have c1:=zaa (i:=1) zab.o rfl;have c2:=zaa (i:=2) zab.o rfl;go_wp2_with (with_reducible refine zT ?_)
  clear d0 d1 c1 c2;refine zah rfl 55 (.tmp 4) rfl b0 rfl zab zbN zbI (fun v62 H_v62=>?_);go_wp2_with (with_reducible refine zT ?_)
  refine zac rfl 55 (.tmp 8) (.tmp 62) rfl b1 rfl _ (zcv H_v62) zad rfl zbI rfl (fun w6_ M6=>?_);replace zad:=zwb M6;go_wp2
  have z0:=zaq (P:=Tryz.prog) 55 zad.o zbN (by kernel_rfl);refine bodyPost_ret (by simp [results,Tryz.results34,asAddr,z0]; rfl) rfl ?_;have hres:=HX.o;rw [if_neg (fun h=>HA.o h.2.1)] at hres;obtain ⟨h1,h2⟩:=Prod.mk.inj hres;obtain ⟨h3,h4⟩:=Prod.mk.inj h2;subst h4;subst h3;subst h1;replace HC:=zwr M6 HC zat;replace HB:=zwr M6 HB zat;replace HG:=zwr M6 HG zat;replace EW:=zwe M6 EW zaZ;exact ⟨_,rfl,EW.o,Rd.widen (A:=B1) (zcM (zc0 (c:=⟨cl,at_,sent,gen,l,gl⟩) HC.o HB.o HG.o) (Rd.all fun w=>zbf w)) (fun k _ h=>HK.o.2.2.2 k (zgp.o k h))⟩
 subst a2;by_cases a3:at2=at_
 case neg =>
  have hb_a3:(at2 == at_)=false:=by simpa using a3
  have HA:=zhd a3;clear a3;have d0:=zaa (i:=0) zak.o rfl;have d1:=zaa (i:=1) zak.o rfl;have c1:=zaa (i:=1) zab.o rfl;have c2:=zaa (i:=2) zab.o rfl;go_wp2_with (with_reducible refine zT ?_)
  clear d0 d1 c1 c2;refine zah rfl 55 (.tmp 4) rfl b0 rfl zab zbN zbI (fun v62 H_v62=>?_);go_wp2_with (with_reducible refine zT ?_)
  refine zac rfl 55 (.tmp 8) (.tmp 62) rfl b1 rfl _ (zcv H_v62) zad rfl zbI rfl (fun w6_ M6=>?_);replace zad:=zwb M6;go_wp2
  have z0:=zaq (P:=Tryz.prog) 55 zad.o zbN (by kernel_rfl);refine bodyPost_ret (by simp [results,Tryz.results34,asAddr,z0]; rfl) rfl ?_;have hres:=HX.o;rw [if_neg (fun h=>HA.o h.2.2.1)] at hres;obtain ⟨h1,h2⟩:=Prod.mk.inj hres;obtain ⟨h3,h4⟩:=Prod.mk.inj h2;subst h4;subst h3;subst h1;replace HC:=zwr M6 HC zat;replace HB:=zwr M6 HB zat;replace HG:=zwr M6 HG zat;replace EW:=zwe M6 EW zaZ;exact ⟨_,rfl,EW.o,Rd.widen (A:=B1) (zcM (zc0 (c:=⟨cl,at_,sent,gen,l,gl⟩) HC.o HB.o HG.o) (Rd.all fun w=>zbf w)) (fun k _ h=>HK.o.2.2.2 k (zgp.o k h))⟩
 replace a3:=a3.symm;subst a3;cases sent
 case false =>
  have d0:=zaa (i:=0) zak.o rfl;have d1:=zaa (i:=1) zak.o rfl;have c1:=zaa (i:=1) zab.o rfl;have c2:=zaa (i:=2) zab.o rfl;go_wp2_with (with_reducible refine zT ?_)
  clear d0 d1 c1 c2;refine zah rfl 55 (.tmp 4) rfl b0 rfl zab zbN zbI (fun v62 H_v62=>?_);go_wp2_with (with_reducible refine zT ?_)
  refine zac rfl 55 (.tmp 8) (.tmp 62) rfl b1 rfl _ (zcv H_v62) zad rfl zbI rfl (fun w6_ M6=>?_);replace zad:=zwb M6;go_wp2
  have z0:=zaq (P:=Tryz.prog) 55 zad.o zbN (by kernel_rfl);refine bodyPost_ret (by simp [results,Tryz.results34,asAddr,z0]; rfl) rfl ?_;have hres:=HX.o;rw [if_neg (fun h=>by cases h.2.2.2)] at hres;obtain ⟨h1,h2⟩:=Prod.mk.inj hres;obtain ⟨h3,h4⟩:=Prod.mk.inj h2;subst h4;subst h3;subst h1;replace HC:=zwr M6 HC zat;replace HB:=zwr M6 HB zat;replace HG:=zwr M6 HG zat;replace EW:=zwe M6 EW zaZ;exact ⟨_,rfl,EW.o,Rd.widen (A:=B1) (zcM (zc0 (c:=⟨cl,at_,false,gen,l,gl⟩) HC.o HB.o HG.o) (Rd.all fun w=>zbf w)) (fun k _ h=>HK.o.2.2.2 k (zgp.o k h))⟩
 have d0:=zaa (i:=0) zak.o rfl;have d1:=zaa (i:=1) zak.o rfl;have c1:=zaa (i:=1) zab.o rfl;have c2:=zaa (i:=2) zab.o rfl;go_wp2_with fail
 clear d0 d1 c1 c2;have hbx:=zab.o;have hby:=zak.o;have x5:=zaa (i:=5) hbx rfl;have y2:=zaa (i:=2) hby rfl;have y3:=zaa (i:=3) hby rfl;obtain ⟨i0,hi,hz0,hz1,hz2⟩:=info_parts Tryz.infoRp;have HI:=zhd hi;clear hi;refine zcA 7 [some (.inr (zdr w5_.heap.size 39 2 0 [])),none,none,some (.inr fun v wx=>wx.ownsRow w5_.heap.size 39 2 v (0+gl.length) ([]++zbU gl)),none,none,some (.inr fun v wx=>Row wx 2 v 1 (zbU [⟨re,rn⟩]))] (fun v wx=>wx.ownsRow w5_.heap.size 39 2 v (0+gl.length+1) ([]++zbU gl++zbU [⟨re,rn⟩])) (by kernel_rfl) (by kernel_rfl) (by kernel_rfl) ?_ (fun v=>zct _ _ _ _ _ v) ?_
 ·exact ⟨zgS _ _ _ _ _,trivial,trivial,zct _ _ _ _ _,trivial,trivial,fun _ _ _ he h=>Row.ext h he,trivial⟩
 refine zbb _ rfl (fun w' hw' hk=>?_) (fun v48=>?_)
 ·have hsz:=hw'.size;clear hk;unfold zaQ;go_simp
  exact ⟨(Ext.refl _).alloc _,zfM #[] 0 hsz (by decide) rfl⟩
 refine zai fun K h=>?_; go_simp; refine h _ ?_; clear h K;(refine zap (fun K hK=>?_); go_simp; first | refine hK _ ?_ | refine ⟨(fun h=>by cases h),hK _ ?_⟩; clear hK K)
 refine zay (.slice ga gl.length gc) rfl (fun w' hw'=>by have q0:=hw'.cell x5; go_simp) ?_;refine zai fun K h=>?_; go_simp; refine h _ ?_; clear h K;refine zbb _ rfl (fun w' hw' hk=>?_) (fun v51=>?_)
 ·have h48:zdr w5_.heap.size 39 2 0 [] v48 w':=hk 48 (by decide);obtain ⟨vv,ww,hrun,hoo,hee⟩:=zcf (P:=Tryz.prog) w' w5_.heap.size 53 53 39 i0 _ 2 16 znK HI.o hz0 hz1 hz2 rfl (by decide) v48 0 _ h48 (.slice ga gl.length gc) gl.length _ ((zhe.1 HG.o.o).ext hw') (ze8 _) (by have:=HGL.o; omega) (by decide) hw'.size;exact zdc rfl rfl rfl hrun hee hoo
 refine zai fun K h=>?_; go_simp; refine h _ ?_; clear h K;(refine zap (fun K hK=>?_); go_simp; first | refine hK _ ?_ | refine ⟨(fun h=>by cases h),hK _ ?_⟩; clear hK K)
 refine zay (.agg #[I re,I rn]) rfl (fun w' hw'=>by have q0:=hw'.cell y2; have q1:=hw'.cell y3; go_simp) ?_;refine zai fun K h=>?_; go_simp; refine h _ ?_; clear h K;refine zbb _ rfl (fun w' hw' hk=>?_) (fun v54=>?_)
 ·skip;clear hk;unfold zaQ;go_simp
  exact ⟨(Ext.refl _).alloc _,Row.of_owns (World.ownsRow_lit (base:=0) (size:=2) w' _ 1 (Nat.zero_le _) (by decide) rfl)⟩
 refine zai fun K h=>?_; go_simp; refine h _ ?_; clear h K;refine zaP ⟨_,_,rfl,rfl,rfl,fun w' hw' hk=>?_,fun v55 w9 e9 ho9=>?_⟩
 ·have h51:w'.ownsRow w5_.heap.size 39 2 v51 (0+gl.length) ([]++zbU gl):=hk 51 (by decide);have h54:Row w' 2 v54 1 (zbU [⟨re,rn⟩]):=hk 54 (by decide);obtain ⟨vv,ww,hrun,hoo,hgg⟩:=zcs (P:=Tryz.prog) w' w5_.heap.size 53 53 39 i0 _ 2 16 znK HI.o hz0 hz1 hz2 rfl (by decide) v51 _ _ h51 v54 1 _ h54 (ze8 _) (by have:=HGL.o; omega) (by decide) hw'.size;exact ⟨vv,ww,zdR rfl rfl rfl hrun,hw'.grown hgg (fun j hj=>(h51.lt j hj).1),hoo⟩
 clear x5 y2 y3 hbx hby;have hro:Rd (fun k=>w5_.heap.size<=k) (fun w=>zas 2 zd6 w v55 (gl++[⟨re,rn⟩])) w9:=zgN (by simpa [zfu] using ho9);obtain ⟨qa,qc,hqs⟩:=zag hro.o;rw [show (gl++[(⟨re,rn⟩:Rp)]).length=gl.length+1 by simp] at hqs;subst hqs;have hsz:w.heap.size+2<=w5_.heap.size:=by have q:=(zlt zad); have q2:=za2.o; omega
 have hsz2:b2 < w5_.heap.size:=(zlt zak);have HRO:=zhd (hro.widen (B:=B1) (fun k _ h=>(HB1.o k).2 ⟨HK.o.2.1 k (by omega),by omega⟩));clear hro ho9 hsz hsz2;show wpList _ _ _ [_,_] _ _
 go_wp2_with (with_reducible refine zT ?_)
 replace zab:=zbx zab e9;refine zal rfl 53 (.tmp 56) (.tmp 55) rfl b0 5 rfl [.slice qa (gl.length+1) qc] (rfl) zab rfl zsa rfl [.slice ca cl.length cc,I at_,.bool true,I gen,.slice (some ⟨xb,xo+1,none⟩) l.length (xc - 1),.slice qa (gl.length+1) qc] rfl (fun w6_ M6=>?_);replace zab:=zwb M6;have c1:=zaa (i:=1) zab.o rfl;go_wp2_with (with_reducible refine zT ?_)
 clear c1;refine zal rfl 3 (.tmp 60) (.tmp 59) rfl b0 1 rfl [I (at_+1)] (rfl) zab rfl zi3 rfl [.slice ca cl.length cc,I (at_+1),.bool true,I gen,.slice (some ⟨xb,xo+1,none⟩) l.length (xc - 1),.slice qa (gl.length+1) qc] rfl (fun w7_ M7=>?_);replace zab:=zwb M7;go_wp2_with (with_reducible refine zT ?_)
 refine zal rfl 4 (.tmp 61) (.const (.bool false)) rfl b0 2 rfl [.bool false] (rfl) zab rfl zi4 rfl [.slice ca cl.length cc,I (at_+1),.bool false,I gen,.slice (some ⟨xb,xo+1,none⟩) l.length (xc - 1),.slice qa (gl.length+1) qc] rfl (fun w8_ M8=>?_);replace zab:=zwb M8;go_wp2_with (with_reducible refine zT ?_)
 refine zah rfl 55 (.tmp 4) rfl b0 rfl zab zbN zbI (fun v62 H_v62=>?_);go_wp2_with (with_reducible refine zT ?_)
 replace zad:=zwg M8 (zwg M7 (zwg M6 (zbx zad e9) zaw) zaw) zaw;refine zac rfl 55 (.tmp 8) (.tmp 62) rfl b1 rfl _ (zcv H_v62) zad rfl zbI rfl (fun w9_ M9=>?_);replace zad:=zwb M9;go_wp2
 have z0:=zaq (P:=Tryz.prog) 55 zad.o zbN (by kernel_rfl);refine bodyPost_ret (by simp [results,Tryz.results34,asAddr,z0]; rfl) rfl ?_;have hres:=HX.o;rw [if_pos (by simp)] at hres;obtain ⟨h1,h2⟩:=Prod.mk.inj hres;obtain ⟨h3,h4⟩:=Prod.mk.inj h2;subst h4;subst h3;subst h1;replace HC:=zwr M9 (zwr M8 (zwr M7 (zwr M6 (zrx HC e9) zaF) zaF) zaF) zat;replace HB:=zwr M9 (zwr M8 (zwr M7 (zwr M6 (zrx HB e9) zaF) zaF) zaF) zat;replace EW:=zwe M9 (zwe M8 (zwe M7 (zwe M6 (zhd (EW.o.trans e9)) zbm) zbm) zbm) zaZ;replace HRO:=zwr M9 (zwr M8 (zwr M7 (zwr M6 HRO zaF) zaF) zaF) zat;exact ⟨_,rfl,EW.o,Rd.widen (A:=B1) (zcM (zc0 (c:=⟨cl,(at_+1),false,gen,l,(gl++[⟨re,rn⟩])⟩) HC.o HB.o HRO.o) (Rd.all fun w=>zbf w)) (fun k _ h=>HK.o.2.2.2 k (zgp.o k h))⟩

end Go.Proofs.YtdmipnnfoolelafGreat

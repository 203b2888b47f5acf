/- Texts of the proof, merged: S2 M1a M1b E1 E2 E3 E4 E5. -/
import Derived.Test.YtdmipnnfoolelaeGreatKUA
import Derived.Test.YtdmipnnfoolelaeGreatKUI
import Derived.Test.YtdmipnnfoolelaeGreatKUE
import Derived.Test.YtdmipnnfoolelaeGreatKUB
import Derived.BigRegion
import Derived.Test.YtdmipnnfoolelaeGreatKUC
import Derived.Lib.Hide
import Derived.Laws.BitsAllLaws
set_option maxHeartbeats 2000000
set_option maxRecDepth 100000

namespace Go.Proofs.YtdmipnnfoolelaeGreat
open Go.RowKit Go.Mk

theorem ze0 {w wx:World} {o1 o2 o3:Obj} (h:Ext (((w.alloc o1).alloc o2).alloc o3) wx):wx.heap[w.heap.size]?=some o1/\wx.heap[w.heap.size+1]?=some o2/\wx.heap[w.heap.size+1+1]?=some o3:=by
 have h2:Ext ((w.alloc o1).alloc o2) wx:=((Ext.refl _).alloc o3).trans h
 refine ⟨zcT h2,zcm h2,?_⟩
 have:=zbi h
 simpa using this

theorem zn7 {s:St} {x y:Int} (h:¬ (0<=x/\x < (s.cells.length:Int))):zas s (x,y)=s:=if_neg h
theorem zpU {s:St} {j:Nat} {y:Int} (h:j < s.cells.length):zas s ((j:Int),y)={ s with cells:=zaC s.cells [((j:Int),y)],undo:=((j:Int),s.cells.getD j 0)::s.undo }:=by
 unfold zas
 rw [if_pos ⟨by omega,by simp only []; omega⟩]
 rfl

theorem zlp (c u a p:Value) (s:St) (x y:Int) (w:World) (A:Nat->Prop) (h:Rd A (fun w=>zb8 w [c,u,a,p] s) w) (hx:¬ (0<=x/\x < (s.cells.length:Int))) :
  zaQ Tryz.prog 54 #[.agg #[c,u,a,p],.agg #[I x,I y]] w A (fun r w'=>Agg zb8 (zas s (x,y)) r w'):=by
 rw [zn7 hx];unfold zaQ;obtain ⟨_,_,_,_,e,h1,h2,h3,h4⟩:=zd2 h;simp at e;obtain ⟨rfl,rfl,rfl,rfl⟩:=e;clear h;obtain ⟨ca,cc,rfl⟩:=zao h1.o;obtain ⟨ua,uc,rfl⟩:=zao h2.o;obtain ⟨aa,ac,rfl⟩:=zaf h3.o;obtain ⟨pa,pc,rfl⟩:=zaf h4.o;generalize hc:Value.slice ca s.cells.length cc=c at *;generalize hu:Value.slice ua s.undo.length uc=u at *;generalize ha:Value.slice aa s.answers.length ac=a at *;generalize hp:Value.slice pa s.past.length pc=p at *;have HC:=zhd hc;have HU:=zhd hu;have HAA:=zhd ha;have HP:=zhd hp;clear hc hu ha hp;have H1:=zhd h1;have H2:=zhd h2;have H3:=zhd h3;have H4:=zhd h4;clear h1 h2 h3 h4;generalize hn:s.cells.length=n at *;clear hn;have hc:=HC.o;have hu:=HU.o;have ha:=HAA.o;have hp:=HP.o;subst hc hu ha hp;by_cases h0:0<=x
 ·have hxn:¬ (x < (n:Int)):=fun h=>hx ⟨h0,h⟩;clear hx;go_enter Tryz.func54,Tryz.ntmps54
  go_wp2
  refine bodyPost_ret (by simp [results,Tryz.results54,go_sem]; rfl) rfl ?_;exact ⟨_,rfl,(((Ext.refl w).alloc _).alloc _).alloc _,((zbT (zc8 H1.o H2.o H3.o H4.o)).ext ((((Ext.refl w).alloc _).alloc _).alloc _)).widen (fun _ _ h=>.inl h)⟩
 ·clear hx;go_enter Tryz.func54,Tryz.ntmps54
  go_wp2
  refine bodyPost_ret (by simp [results,Tryz.results54,go_sem]; rfl) rfl ?_;exact ⟨_,rfl,(((Ext.refl w).alloc _).alloc _).alloc _,((zbT (zc8 H1.o H2.o H3.o H4.o)).ext ((((Ext.refl w).alloc _).alloc _).alloc _)).widen (fun _ _ h=>.inl h)⟩

theorem zl2 (c u a p:Value) (s:St) (j:Nat) (y:Int) (w:World) (A:Nat->Prop) (h:Rd A (fun w=>zb8 w [c,u,a,p] s) w) (hj:j < s.cells.length) (hr:s.cells.length * 8<=140737488355328) (hr2:(1+s.undo.length) * 16<=140737488355328) :
  zaQ Tryz.prog 54 #[.agg #[c,u,a,p],.agg #[I j,I y]] w A (fun r w'=>Agg zb8 (zas s ((j:Int),y)) r w'):=by
 rw [zpU hj];unfold zaQ;obtain ⟨_,_,_,_,e,h1,h2,h3,h4⟩:=zd2 h;simp at e;obtain ⟨rfl,rfl,rfl,rfl⟩:=e;clear h;obtain ⟨ca,cc,rfl⟩:=zao h1.o;obtain ⟨ua,uc,rfl⟩:=zao h2.o;obtain ⟨aa,ac,rfl⟩:=zaf h3.o;obtain ⟨pa,pc,rfl⟩:=zaf h4.o;generalize hc:Value.slice ca s.cells.length cc=c at *;generalize hu:Value.slice ua s.undo.length uc=u at *;generalize ha:Value.slice aa s.answers.length ac=a at *;generalize hp:Value.slice pa s.past.length pc=p at *;have HC:=zhd hc;have HU:=zhd hu;have HAA:=zhd ha;have HP:=zhd hp;clear hc hu ha hp;obtain ⟨B,hB⟩:=zdh A w.heap.size 3;have HK:=zhd hB;clear hB;have e0:Ext w (((w.alloc (.cells #[c,u,a,p] 31)).alloc (.cells #[I j,I y] 91)).alloc (.cells zT4 31)):=(((Ext.refl w).alloc _).alloc _).alloc _;have HB:=zhd (fun wx (h:Ext (((w.alloc (.cells #[c,u,a,p] 31)).alloc (.cells #[I j,I y] 91)).alloc (.cells zT4 31)) wx)=>ze0 h);have hsz:(((w.alloc (.cells #[c,u,a,p] 31)).alloc (.cells #[I j,I y] 91)).alloc (.cells zT4 31)).heap.size=w.heap.size+3:=by simp
 have HSZ:=zhd hsz;clear hsz;replace h1:=(h1.widen HK.o.1).ext e0;replace h2:=(h2.widen HK.o.1).ext e0;replace h3:=(h3.widen HK.o.1).ext e0;replace h4:=(h4.widen HK.o.1).ext e0;have H1:=zhd h1;have H2:=zhd h2;have H3:=zhd h3;have H4:=zhd h4;clear h1 h2 h3 h4;have HR:=zhd hr;have HR2:=zhd hr2;clear hr hr2;have hc:=HC.o;have hu:=HU.o;have ha:=HAA.o;have hp:=HP.o;subst hc hu ha hp;go_enter Tryz.func54,Tryz.ntmps54
 have hjn:(j:Int) < (s.cells.length:Int):=by omega
 have hj0:(0:Int)<=(j:Int):=by omega
 go_wp2_with fail
 generalize hw0:((w.alloc (.cells #[.slice ca s.cells.length cc,.slice ua s.undo.length uc,.slice aa s.answers.length ac,.slice pa s.past.length pc] 31)).alloc (.cells #[I j,I y] 91)).alloc (.cells zT4 31)=w0 at *;clear hw0;obtain ⟨b0,b1,-⟩:=HB.o w0 (Ext.refl _);obtain ⟨x0,x1,x2,x3,-⟩:=box4 b0;obtain ⟨y0,y1,-⟩:=box2 b1;obtain ⟨_,cap',he,-,-,hcell⟩:=H1.o.o.form;simp at he;obtain ⟨rfl,rfl⟩:=he;obtain ⟨cb,co,rfl,hcj⟩:=hcell j hj;clear hcell b0 b1;generalize hold:s.cells.getD j 0=old at *;obtain ⟨i0,hi,hz0,hz1,hz2⟩:=info_parts Tryz.infoWrite;have HI:=zhd hi;clear hi;have hbs:w.heap.size+3=w0.heap.size:=HSZ.o.symm;refine zan 14 [none,none,none,none,none,none,none,none,none,some (.inr (zdc w0.heap.size 91 2 1 (zaA [((j:Int),old)]))),none,none,some (.inr fun v wx=>wx.ownsRow w0.heap.size 91 2 v (1+s.undo.length) (zaA (((j:Int),old)::s.undo))),none] (by kernel_rfl) (by kernel_rfl) ?_ ?_
 ·exact ⟨trivial,trivial,trivial,trivial,trivial,trivial,trivial,trivial,trivial,zga _ _ _ _ _,trivial,trivial,zcb _ _ _ _ _,trivial,trivial⟩
 (refine zap (fun K hK=>?_); go_simp; first | refine hK _ ?_ | refine ⟨(fun h=>by cases h),hK _ ?_⟩; clear hK K)
 refine zav (I j) rfl (fun w' hw'=>by have q0:=hw'.cell y0; go_simp) ?_;refine zai fun K h=>?_; go_simp; refine h _ ?_; clear h K;(refine zap (fun K hK=>?_); go_simp; first | refine hK _ ?_ | refine ⟨(fun h=>by cases h),hK _ ?_⟩; clear hK K)
 refine zav (.slice (some ⟨cb,co,none⟩) s.cells.length cc) rfl (fun w' hw'=>by have q0:=hw'.cell x0; go_simp) ?_;refine zai fun K h=>?_; go_simp; refine h _ ?_; clear h K;(refine zap (fun K hK=>?_); go_simp; first | refine hK _ ?_ | refine ⟨(fun h=>by cases h),hK _ ?_⟩; clear hK K)
 refine zav (I j) rfl (fun w' hw'=>by have q0:=hw'.cell y0; go_simp) ?_;refine zai fun K h=>?_; go_simp; refine h _ ?_; clear h K;(refine zap (fun K hK=>?_); go_simp; first | refine hK _ ?_ | refine ⟨(fun h=>by cases h),hK _ ?_⟩; clear hK K)
 refine zav (I old) rfl (fun w' hw'=>by have q0:=hw'.cell hcj; go_simp) ?_;refine zai fun K h=>?_; go_simp; refine h _ ?_; clear h K;(refine zap (fun K hK=>?_); go_simp; first | refine hK _ ?_ | refine ⟨(fun h=>by cases h),hK _ ?_⟩; clear hK K)
 refine za9 _ rfl (fun w' hw' hk=>?_) (fun v25=>?_)
 ·have hsz:=hw'.size;clear hk;unfold zaL;go_simp
  exact ⟨(Ext.refl _).alloc _,zft _ 1 hsz (by decide) rfl⟩
 refine zai fun K h=>?_; go_simp; refine h _ ?_; clear h K;(refine zap (fun K hK=>?_); go_simp; first | refine hK _ ?_ | refine ⟨(fun h=>by cases h),hK _ ?_⟩; clear hK K)
 refine zav ((.slice ua s.undo.length uc)) rfl (fun w' hw'=>by have q0:=hw'.cell x1; go_simp) ?_;refine zai fun K h=>?_; go_simp; refine h _ ?_; clear h K;refine za9 _ rfl (fun w' hw' hk=>?_) (fun v28=>?_)
 ·have h25:zdc w0.heap.size 91 2 1 (zaA [((j:Int),old)]) v25 w':=hk 25 (by decide);obtain ⟨v',w'',hrun,ho,he⟩:=zbY (P:=Tryz.prog) w' w0.heap.size 27 27 91 i0 _ 2 16 zfq HI.o hz0 hz1 hz2 rfl (by decide) v25 1 _ h25 (.slice ua s.undo.length uc) s.undo.length _ (H2.o.o.ext hw') (zbz _) HR2.o (by decide) hw'.size;exact zcY rfl rfl rfl hrun he (by rw [<- zbl] at ho; exact ho)
 refine zai fun K h=>?_; go_simp; refine h _ ?_; clear h K;(refine zap (fun K hK=>?_); go_simp; first | refine hK _ ?_ | refine ⟨(fun h=>by cases h),hK _ ?_⟩; clear hK K)
 refine zaM ?_;intro w1 e1 hX;have ho1:w1.ownsRow w0.heap.size 91 2 v28 (1+s.undo.length) (zaA (((j:Int),old)::s.undo)):=hX 28;clear hX x0 x1 x2 x3 y0 y1 hcj;have hq1:Rd B (fun w=>zax w v28 (((j:Int),old)::s.undo)) w1:=(zd4 ho1).widen (fun k _ h=>HK.o.2.1 k (by omega));obtain ⟨va,vc,hvs⟩:=zao hq1.o;subst hvs;have HQ1:=zhd hq1;clear hq1 ho1;obtain ⟨b0,b1,b2⟩:=HB.o w1 e1;obtain ⟨x0,x1,x2,x3,f0,f1,f2,f3⟩:=box4 b0;obtain ⟨y0,y1,-⟩:=box2 b1;go_wp2_with fail
 clear x0 x1 x2 x3 f0 f1 f2 f3 y0 y1;have n0:¬ B w.heap.size:=HK.o.2.2.1 _ (Nat.le_refl _) (by omega);have n2:¬ B (w.heap.size+1+1):=HK.o.2.2.1 _ (by omega) (by omega);have m2:Ext w (w1.setCell ⟨w.heap.size,1,none⟩ (.slice va (s.undo.length+1) vc)):=(e0.trans e1).setCell (Nat.le_refl _) _;have k1:=(H1.o.ext e1).set n0 1 (.slice va (s.undo.length+1) vc);have k2:=HQ1.o.set n0 1 (.slice va (s.undo.length+1) vc);have k3:=(H3.o.ext e1).set n0 1 (.slice va (s.undo.length+1) vc);have k4:=(H4.o.ext e1).set n0 1 (.slice va (s.undo.length+1) vc)
 have c0:(w1.setCell ⟨w.heap.size,1,none⟩ (.slice va (s.undo.length+1) vc)).heap[w.heap.size]?=some (.cells #[.slice (some ⟨cb,co,none⟩) s.cells.length cc,.slice va (s.undo.length+1) vc,.slice aa s.answers.length ac,.slice pa s.past.length pc] 31 (0,0)):=by
  have:=heap_setCell_same _ _ 1 _ _ (.slice va (s.undo.length+1) vc) b0;simpa using this
 have c2:=zcB (i:=1) (x:=.slice va (s.undo.length+1) vc) b2 (show w.heap.size+1+1≠w.heap.size by omega);have hs2:(w1.setCell ⟨w.heap.size,1,none⟩ (.slice va (s.undo.length+1) vc)).heap.size=w1.heap.size:=by simp
 have hle:w0.heap.size<=w1.heap.size:=e1.size;have hlit:=zcJ (w:=w1.setCell ⟨w.heap.size,1,none⟩ (.slice va (s.undo.length+1) vc)) 91 [((j:Int),y)] #[I j,I y] 1 rfl rfl (by decide);rw [hs2] at hlit;generalize hw2:w1.setCell ⟨w.heap.size,1,none⟩ (.slice va (s.undo.length+1) vc)=w2 at *;clear hw2 b0 b1 b2 e1;refine (ziR _ _ s.cells [((j:Int),y)] _ (k1.o.ext ((Ext.refl w2).alloc _)) hlit HR.o (by simp)).to fun r w4 e4 ⟨n4,ho4⟩=>?_;have k5:Rd B (fun w=>zbB w r (zaC s.cells [((j:Int),y)])) w4:=(zdR ho4).widen (fun k _ h=>HK.o.2.1 k (by simp at h; omega));replace e4:=((Ext.refl w2).alloc (.cells #[I j,I y] 91)).trans e4;obtain ⟨ra,rc,hrs⟩:=zao k5.o;subst hrs;have K2:=zhd (k2.ext e4);have K3:=zhd (k3.ext e4);have K4:=zhd (k4.ext e4);have K5:=zhd k5;have d0:=zbP c0 e4;have d2:=zbP c2 e4;have m4:=m2.trans e4;clear k1 k2 k3 k4 k5 ho4 hlit hs2 c0 c2 m2 e4 hle;obtain ⟨x0,x1,x2,x3,f0,f1,f2,f3⟩:=box4 d0;obtain ⟨y0,y1,y2,y3,g0,g1,g2,g3⟩:=box4 d2;go_wp2_with fail
 clear x0 x1 x2 x3 f0 f1 f2 f3 y0 y1 y2 y3 g0 g1 g2 g3;have d3:=set4 (zcB (i:=0) (x:=.slice ra (zaC s.cells [((j:Int),y)]).length rc) d2 (show w.heap.size+1+1≠w.heap.size by omega)) (.slice ra (zaC s.cells [((j:Int),y)]).length rc) (.slice va (s.undo.length+1) vc) (.slice aa s.answers.length ac) (.slice pa s.past.length pc);obtain ⟨q0,q1,q2,q3,-⟩:=box4 d3;have m5:=zb1 (m4.setCell (p:=⟨w.heap.size,0,none⟩) (Nat.le_refl _) (.slice ra (zaC s.cells [((j:Int),y)]).length rc)) (b:=w.heap.size+1+1) (by omega) (.slice ra (zaC s.cells [((j:Int),y)]).length rc) (.slice va (s.undo.length+1) vc) (.slice aa s.answers.length ac) (.slice pa s.past.length pc);refine bodyPost_ret (by simp [results,Tryz.results54,go_sem,q0,q1,q2,q3]; rfl) rfl ?_;rw [hold];refine ⟨_,rfl,m5,Rd.widen (A:=B) (zbT (zc8 (s:={ s with cells:=zaC s.cells [((j:Int),y)],undo:=((j:Int),old)::s.undo }) ?_ ?_ ?_ ?_)) (fun k _ h=>HK.o.2.2.2 k h)⟩
 ·exact ((((K5.o.set n0 _ _).set n2 _ _).set n2 _ _).set n2 _ _).set n2 _ _
 ·exact ((((K2.o.set n0 _ _).set n2 _ _).set n2 _ _).set n2 _ _).set n2 _ _
 ·exact ((((K3.o.set n0 _ _).set n2 _ _).set n2 _ _).set n2 _ _).set n2 _ _
 ·exact ((((K4.o.set n0 _ _).set n2 _ _).set n2 _ _).set n2 _ _).set n2 _ _

theorem zgw (c u a p:Value) (s:St) (x y:Int) (w:World) (A:Nat->Prop) (h:Rd A (fun w=>zb8 w [c,u,a,p] s) w) (hr:s.cells.length * 8<=140737488355328) (hr2:(1+s.undo.length) * 16<=140737488355328) :
  zaQ Tryz.prog 54 #[.agg #[c,u,a,p],.agg #[I x,I y]] w A (fun r w'=>Agg zb8 (zas s (x,y)) r w'):=by
 by_cases hx:0<=x/\x < (s.cells.length:Int)
 ·obtain ⟨j,rfl⟩:∃ j:Nat,x=(j:Int):=⟨x.toNat,by omega⟩
  exact zl2 c u a p s j y w A h (by omega) hr hr2
 ·exact zlp c u a p s x y w A h hx

open Go.RowKit Go.Mk

theorem zda (n a b:Int) (w:World) :
  Calls Tryz.prog 64 #[I n,I a,I b] w fun e w'=>e=.returned (.bool (decide (a<=n/\n<=b)))/\w'=w:=by
 by_cases hi:a<=n
 ·go_enter Tryz.func64,Tryz.ntmps64
  go_wp2
  go_ret
  exact ⟨by simp [hi],rfl⟩
 ·go_enter Tryz.func64,Tryz.ntmps64
  go_wp2
  go_ret
  exact ⟨by simp; omega,rfl⟩

theorem zjW (n:Int) (has:Bool) (w:World) :
  Calls Tryz.prog 65 #[I n,.bool has] w fun e w'=>e=.returned (.bool (if has then decide (1<=n/\n<=255) else n == 0))/\w'=w:=by
 cases has
 ·go_enter Tryz.func65,Tryz.ntmps65
  go_wp2
  go_ret
  exact ⟨by simp,rfl⟩
 ·go_enter Tryz.func65,Tryz.ntmps65
  go_wp2_with (go_at_call 64; refine Calls.same (zda _ _ _ _) ?_)
  go_ret
  exact ⟨by simp,rfl⟩

theorem zir (n:Int) (has:Bool) (w:World) :
  Calls Tryz.prog 66 #[I n,.bool has] w fun e w'=>e=.returned (.bool (if has then decide (-1073741824<=n/\n<=1073741824) else n == 0))/\w'=w:=by
 cases has
 ·go_enter Tryz.func66,Tryz.ntmps66
  go_wp2
  go_ret
  exact ⟨by simp,rfl⟩
 ·go_enter Tryz.func66,Tryz.ntmps66
  go_wp2_with (go_at_call 64; refine Calls.same (zda _ _ _ _) ?_)
  go_ret
  exact ⟨by simp,rfl⟩

theorem zjo (k a o n:Int) (w:World):zaU Tryz.prog 38 #[.agg #[I k,I a,I o,I n]] w fun r _=>r=I (wrongCl ⟨k,a,o,n⟩):=by
 unfold zaU;by_cases hk:1<=k/\k<=6
 case neg =>
  have hk':decide (1<=k/\k<=6)=false:=by simpa using hk
  go_enter Tryz.func38,Tryz.ntmps38
  go_wp2_with (go_at_call 64; refine Calls.same (zda _ _ _ _) ?_)
  go_ret
  exact zka ((Ext.refl w).alloc _) (congrArg I (show 1=_ by simp only [wrongCl]; rw [if_pos hk]))
 have hk2:k=1∨k=2∨k=3∨k=4∨k=5∨k=6:=by omega
 clear hk;rcases hk2 with rfl | rfl | rfl | rfl | rfl | rfl
 all_goals
  go_enter Tryz.func38,Tryz.ntmps38
  go_wp2_with (first
   | (go_at_call 64; refine Calls.same (zda _ _ _ _) ?_)
   | (go_at_call 65; refine Calls.same (zjW _ _ _) ?_)
   | (go_at_call 66; refine Calls.same (zir _ _ _) ?_))
 all_goals
  go_ret
  refine zka ((Ext.refl w).alloc _) ?_
  first | refine congrArg I (show 0=_ from ?_) | refine congrArg I (show 7=_ from ?_) | refine congrArg I (show 3=_ from ?_)
  simp only [Bool.not_eq_eq_eq_not,Bool.not_true,Bool.not_false,decide_eq_true_eq,decide_eq_false_iff_not,beq_iff_eq,beq_eq_false_iff_ne] at *
  unfold wrongCl
  dsimp only
  repeat' split
  all_goals omega

open Go.RowKit Go.Mk

theorem zfo (k a o n:Int) (w:World):Calls Tryz.prog 22 #[.agg #[I k,I a,I o,I n]] w fun e w'=>e=.returned (I (wrongCl ⟨k,a,o,n⟩))/\Ext w w':=by
 have hk2:k < 1∨6 < k∨k=1∨k=2∨k=3∨k=4∨k=5∨k=6:=by omega
 rcases hk2 with hk | hk | rfl | rfl | rfl | rfl | rfl | rfl
 all_goals
  go_enter Tryz.func22,Tryz.ntmps22
  go_wp2
 all_goals
  go_ret
  refine ⟨zej ?_,(Ext.refl w).alloc _⟩
  unfold wrongCl
  dsimp only
  repeat' split
  all_goals omega

open Go.RowKit Go.Mk

abbrev RQ (r:Rq):Value:=.agg #[I r.client,I r.token,I r.call.kind,I r.call.name,I r.call.other,I r.call.n]
abbrev AN (a:An):Value:=.agg #[I a.client,I a.token,I a.reply.err,I a.reply.n]

theorem zeo (n a b:Int) (w:World) :
  Calls Tryz.prog 132 #[I n,I a,I b] w fun e w'=>e=.returned (.bool (decide (a<=n/\n<=b)))/\w'=w:=by
 by_cases hi:a<=n
 ·go_enter Tryz.func132,Tryz.ntmps132
  go_wp2
  go_ret
  exact ⟨by simp [hi],rfl⟩
 ·go_enter Tryz.func132,Tryz.ntmps132
  go_wp2
  go_ret
  exact ⟨by simp; omega,rfl⟩

theorem zdv (c t:Int) (w:World) :
  Calls Tryz.prog 119 #[I c,I t] w fun e w'=>e=.returned (.bool (decide (0<=c/\c < 3/\0<=t/\t < 8)))/\w'=w:=by
 by_cases hi:0<=c/\c<=2
 ·have hi':decide (0<=c/\c<=2)=true:=by simp [hi]
  go_enter Tryz.func119,Tryz.ntmps119
  go_wp2_with (go_at_call 132; refine Calls.same (zeo _ _ _ _) ?_)
  go_ret
  exact ⟨zcg (by rw [Bool.eq_iff_iff]; simp; omega),rfl⟩
 ·have hi':decide (0<=c/\c<=2)=false:=by simpa using hi
  go_enter Tryz.func119,Tryz.ntmps119
  go_wp2_with (go_at_call 132; refine Calls.same (zeo _ _ _ _) ?_)
  go_ret
  exact ⟨zcg (by rw [Bool.eq_iff_iff]; simp; omega),rfl⟩

theorem zee (c t:Int) (w:World) :
  Calls Tryz.prog 97 #[I c,I t] w fun e w'=>e=.returned (.bool (decide (0<=c/\c < 3/\0<=t/\t < 8)))/\w'=w:=by
 by_cases h0:0<=c
 ·by_cases h1:c < 3
  ·by_cases h2:0<=t
   ·go_enter Tryz.func97,Tryz.ntmps97
    go_wp2
    go_ret
    exact ⟨zcg (by rw [Bool.eq_iff_iff]; simp; omega),rfl⟩
   ·go_enter Tryz.func97,Tryz.ntmps97
    go_wp2
    go_ret
    exact ⟨zcg (by rw [Bool.eq_iff_iff]; simp; omega),rfl⟩
  ·go_enter Tryz.func97,Tryz.ntmps97
   go_wp2
   go_ret
   exact ⟨zcg (by rw [Bool.eq_iff_iff]; simp; omega),rfl⟩
 ·go_enter Tryz.func97,Tryz.ntmps97
  go_wp2
  go_ret
  exact ⟨zcg (by rw [Bool.eq_iff_iff]; simp; omega),rfl⟩

theorem zgo (e0 n:Int) (w:World) :
  Calls Tryz.prog 120 #[.agg #[I e0,I n]] w fun e w'=>e=.returned (.bool (decide (¬ (e0 < 0∨12 < e0∨1073741824 < n∨n < -1073741824∨(0 < e0/\n≠0)))))/\Ext w w':=by
 by_cases hz:e0=0
 ·subst hz;go_enter Tryz.func120,Tryz.ntmps120
  go_wp2_with (go_at_call 132; refine Calls.same (zeo _ _ _ _) ?_)
  go_ret
  exact ⟨zcg (by rw [Bool.eq_iff_iff]; simp; omega),(Ext.refl w).alloc _⟩
 have hz':(e0 == 0)=false:=by simpa using hz
 by_cases hi:0<=e0/\e0<=12
 ·have hi':decide (0<=e0/\e0<=12)=true:=by simp [hi]
  go_enter Tryz.func120,Tryz.ntmps120
  go_wp2_with (go_at_call 132; refine Calls.same (zeo _ _ _ _) ?_)
  go_ret
  refine ⟨zcg ?_,(Ext.refl w).alloc _⟩;rw [Bool.eq_iff_iff]; simp; omega
 ·have hi':decide (0<=e0/\e0<=12)=false:=by simpa using hi
  go_enter Tryz.func120,Tryz.ntmps120
  go_wp2_with (go_at_call 132; refine Calls.same (zeo _ _ _ _) ?_)
  go_ret
  exact ⟨zcg (by rw [Bool.eq_iff_iff]; simp; omega),(Ext.refl w).alloc _⟩

open Go.RowKit Go.Mk

theorem zjB {c t k a o n:Int} (h:¬ (0<=c/\c < 3/\0<=t/\t < 8)):zbC ⟨c,t,⟨k,a,o,n⟩⟩=3:=if_pos h
theorem zh9 {c t k a o n:Int} (h:0<=c/\c < 3/\0<=t/\t < 8):zbC ⟨c,t,⟨k,a,o,n⟩⟩=wrongCl ⟨k,a,o,n⟩:=if_neg (by simp [h])

theorem zhW (c t k a o n:Int) (w:World) :
  Calls Tryz.prog 114 #[RQ ⟨c,t,⟨k,a,o,n⟩⟩] w fun e w'=>e=.returned (I (zbC ⟨c,t,⟨k,a,o,n⟩⟩))/\Ext w w':=by
 by_cases hi:0<=c/\c < 3/\0<=t/\t < 8
 ·have hi':decide (0<=c/\c < 3/\0<=t/\t < 8)=true:=decide_eq_true hi;rw [zh9 hi];clear hi;go_enter Tryz.func114,Tryz.ntmps114
  go_wp2_with (go_at_call 119; refine Calls.same (zdv _ _ _) ?_)
  refine (zjo k a o n _).to fun r w1 e1 hr=>?_;subst hr;go_wp2
  go_ret
  exact ⟨rfl,((Ext.refl w).alloc _).trans e1⟩
 ·have hi':decide (0<=c/\c < 3/\0<=t/\t < 8)=false:=decide_eq_false hi;rw [zjB hi];clear hi;go_enter Tryz.func114,Tryz.ntmps114
  go_wp2_with (go_at_call 119; refine Calls.same (zdv _ _ _) ?_)
  go_ret
  exact ⟨rfl,(Ext.refl w).alloc _⟩

theorem zgU (c t k a o n:Int) (w:World) :
  Calls Tryz.prog 83 #[RQ ⟨c,t,⟨k,a,o,n⟩⟩] w fun e w'=>e=.returned (I (zbC ⟨c,t,⟨k,a,o,n⟩⟩))/\Ext w w':=by
 by_cases hi:0<=c/\c < 3/\0<=t/\t < 8
 ·have hi':decide (0<=c/\c < 3/\0<=t/\t < 8)=true:=decide_eq_true hi;rw [zh9 hi];clear hi;go_enter Tryz.func83,Tryz.ntmps83
  go_wp2_with (go_at_call 97; refine Calls.same (zee _ _ _) ?_)
  refine Calls.exts (zfo k a o n _) (fun w1 e1=>?_);go_wp2
  go_ret
  exact ⟨rfl,((Ext.refl w).alloc _).trans e1⟩
 ·have hi':decide (0<=c/\c < 3/\0<=t/\t < 8)=false:=decide_eq_false hi;rw [zjB hi];clear hi;go_enter Tryz.func83,Tryz.ntmps83
  go_wp2_with (go_at_call 97; refine Calls.same (zee _ _ _) ?_)
  go_ret
  exact ⟨rfl,(Ext.refl w).alloc _⟩

theorem zjC {c t e n:Int} (h:¬ (0<=c/\c < 3/\0<=t/\t < 8)):zbt ⟨c,t,⟨e,n⟩⟩=3:=if_pos (.inl h)
theorem zdN {c t e n:Int} (_h:0<=c/\c < 3/\0<=t/\t < 8) (h2:e < 0∨12 < e∨1073741824 < n∨n < -1073741824∨(0 < e/\n≠0)):zbt ⟨c,t,⟨e,n⟩⟩=3:=if_pos (.inr h2)
theorem zhh {c t e n:Int} (h:0<=c/\c < 3/\0<=t/\t < 8) (h2:¬ (e < 0∨12 < e∨1073741824 < n∨n < -1073741824∨(0 < e/\n≠0))):zbt ⟨c,t,⟨e,n⟩⟩=0:=if_neg (not_or.2 ⟨by simp [h],h2⟩)

theorem zit (c t e0 n:Int) (w:World) :
  Calls Tryz.prog 108 #[AN ⟨c,t,⟨e0,n⟩⟩] w fun e w'=>e=.returned (I (zbt ⟨c,t,⟨e0,n⟩⟩))/\Ext w w':=by
 by_cases hi:0<=c/\c < 3/\0<=t/\t < 8
 case neg =>
  have hi':decide (0<=c/\c < 3/\0<=t/\t < 8)=false:=decide_eq_false hi;rw [zjC hi];clear hi;go_enter Tryz.func108,Tryz.ntmps108
  go_wp2_with (go_at_call 119; refine Calls.same (zdv _ _ _) ?_)
  go_ret
  exact ⟨rfl,(Ext.refl w).alloc _⟩
 have hi':decide (0<=c/\c < 3/\0<=t/\t < 8)=true:=decide_eq_true hi;by_cases hj:e0 < 0∨12 < e0∨1073741824 < n∨n < -1073741824∨(0 < e0/\n≠0)
 ·have hj':decide (¬ (e0 < 0∨12 < e0∨1073741824 < n∨n < -1073741824∨(0 < e0/\n≠0)))=false:=decide_eq_false (fun h=>h hj);rw [zdN hi hj];have hR:=fun wx=>zgo e0 n wx;rw [hj'] at hR;clear hi hj hj';go_enter Tryz.func108,Tryz.ntmps108
  go_wp2_with (first | (go_at_call 119; refine Calls.same (zdv _ _ _) ?_) | (go_at_call 120; refine Calls.exts (hR _) (fun w1 e1=>?_)))
  go_ret
  exact ⟨rfl,((Ext.refl w).alloc _).trans e1⟩
 ·have hj':decide (¬ (e0 < 0∨12 < e0∨1073741824 < n∨n < -1073741824∨(0 < e0/\n≠0)))=true:=decide_eq_true hj;rw [zhh hi hj];have hR:=fun wx=>zgo e0 n wx;rw [hj'] at hR;clear hi hj hj';go_enter Tryz.func108,Tryz.ntmps108
  go_wp2_with (first | (go_at_call 119; refine Calls.same (zdv _ _ _) ?_) | (go_at_call 120; refine Calls.exts (hR _) (fun w1 e1=>?_)))
  go_ret
  exact ⟨rfl,((Ext.refl w).alloc _).trans e1⟩

theorem zhb (c t e0 n:Int) (w:World) :
  Calls Tryz.prog 81 #[AN ⟨c,t,⟨e0,n⟩⟩] w fun e w'=>e=.returned (I (zbt ⟨c,t,⟨e0,n⟩⟩))/\Ext w w':=by
 by_cases hi:0<=c/\c < 3/\0<=t/\t < 8
 case neg =>
  have hi':decide (0<=c/\c < 3/\0<=t/\t < 8)=false:=decide_eq_false hi;rw [zjC hi];clear hi;go_enter Tryz.func81,Tryz.ntmps81
  go_wp2_with (go_at_call 97; refine Calls.same (zee _ _ _) ?_)
  go_ret
  exact ⟨rfl,(((Ext.refl w).alloc _).alloc _)⟩
 have hi':decide (0<=c/\c < 3/\0<=t/\t < 8)=true:=decide_eq_true hi;have h5:e0 < 0∨12 < e0∨1073741824 < n∨n < -1073741824∨(0 < e0/\n≠0)∨¬ (e0 < 0∨12 < e0∨1073741824 < n∨n < -1073741824∨(0 < e0/\n≠0)):=by omega
 have e1:Ext w (((w.alloc (.cells #[I c,I t,I e0,I n] 99)).alloc (.cells #[I e0,I n] 39))):=(((Ext.refl w).alloc _).alloc _);have HI:=zhd hi;clear hi;by_cases q1:e0 < 0
 ·rw [zdN HI.o (.inl q1)];go_enter Tryz.func81,Tryz.ntmps81
  go_wp2_with (go_at_call 97; refine Calls.same (zee _ _ _) ?_)
  go_ret
  exact ⟨rfl,e1⟩
 by_cases q2:12 < e0
 ·rw [zdN HI.o (.inr (.inl q2))];go_enter Tryz.func81,Tryz.ntmps81
  go_wp2_with (go_at_call 97; refine Calls.same (zee _ _ _) ?_)
  go_ret
  exact ⟨rfl,e1⟩
 by_cases q3:1073741824 < n
 ·rw [zdN HI.o (.inr (.inr (.inl q3)))];go_enter Tryz.func81,Tryz.ntmps81
  go_wp2_with (go_at_call 97; refine Calls.same (zee _ _ _) ?_)
  go_ret
  exact ⟨rfl,e1⟩
 by_cases q4:n < -1073741824
 ·rw [zdN HI.o (.inr (.inr (.inr (.inl q4))))];go_enter Tryz.func81,Tryz.ntmps81
  go_wp2_with (go_at_call 97; refine Calls.same (zee _ _ _) ?_)
  go_ret
  exact ⟨rfl,e1⟩
 by_cases q5:0 < e0
 ·by_cases q6:n=0
  ·rw [zhh HI.o (by omega)];have q7:(n != 0)=false:=by simp [q6]
   go_enter Tryz.func81,Tryz.ntmps81
   go_wp2_with (go_at_call 97; refine Calls.same (zee _ _ _) ?_)
   go_ret
   exact ⟨rfl,(((Ext.refl w).alloc _).alloc _)⟩
  ·rw [zdN HI.o (.inr (.inr (.inr (.inr ⟨q5,q6⟩))))];have q7:(n != 0)=true:=by simpa using q6
   go_enter Tryz.func81,Tryz.ntmps81
   go_wp2_with (go_at_call 97; refine Calls.same (zee _ _ _) ?_)
   go_ret
   exact ⟨rfl,e1⟩
 ·rw [zhh HI.o (by omega)];go_enter Tryz.func81,Tryz.ntmps81
  go_wp2_with (go_at_call 97; refine Calls.same (zee _ _ _) ?_)
  go_ret
  exact ⟨rfl,e1⟩

open Go.RowKit Go.Mk

theorem zfN (v:Value) (l:List UInt8) (m:UInt8) (n:Nat) (hn:0 < n) (w:World) (hv:zbb w v l) :
  Calls Tryz.prog 106 #[v,U m,I n] w fun e w'=>e=.returned (.bool (decide (l.length=n/\l.getD 0 0=m)))/\w'=w:=by
 obtain ⟨ao,cap,rfl,h1,h2,h3⟩:=hv.form;unfold maxLen at h2;clear hv;by_cases hl:l.length=n
 ·obtain ⟨b,off,rfl,hc⟩:=h3 0 (by omega);clear h3;simp only [Nat.add_zero] at hc;rw [hl] at h1 ⊢;generalize l.getD 0 0=x at *
  have hu:((x.toNat:Int) == (m.toNat:Int))=decide (x=m):=by
   rw [Bool.eq_iff_iff]; simp; exact ⟨fun h=>UInt8.toNat_inj.1 (by omega),fun h=>by rw [h]⟩
  go_enter Tryz.func106,Tryz.ntmps106
  go_wp2
  go_ret
  exact ⟨by simp,rfl⟩
 ·have hne:(((l.length:Int)) == (n:Int))=false:=by rw [beq_eq_false_iff_ne]; omega
  clear h3;go_enter Tryz.func106,Tryz.ntmps106
  go_wp2
  go_ret
  exact ⟨by simp [hl],rfl⟩

theorem zi0 (x y i m:Nat) (hm:m=2 ^ i) (h:y < m):(x * m) ||| y=x * m+y:=by
 subst hm
 rw [<- Nat.shiftLeft_eq,Nat.shiftLeft_add_eq_or_of_lt h]

theorem zrQ (a b c d:Nat) (ha:a < 256) (hb:b < 256) (hc:c < 256) (hd:d < 256) :
  bits BinOp.or IntKind.u32 (bits BinOp.or IntKind.u32 (bits BinOp.or IntKind.u32 ((a:Int) % 4294967296 * 16777216 % 4294967296) ((b:Int) % 4294967296 * 65536 % 4294967296)) ((c:Int) % 4294967296 * 256 % 4294967296)) ((d:Int) % 4294967296)
   = ((((a * 256+b) * 256+c) * 256+d:Nat):Int):=by
 have e0:((a:Int) % 4294967296 * 16777216 % 4294967296)=((a * 16777216:Nat):Int):=by omega
 have e1:((b:Int) % 4294967296 * 65536 % 4294967296)=((b * 65536:Nat):Int):=by omega
 have e2:((c:Int) % 4294967296 * 256 % 4294967296)=((c * 256:Nat):Int):=by omega
 have e3:((d:Int) % 4294967296)=((d:Nat):Int):=by omega
 rw [e0,e1,e2,e3,u32_or_nat _ _ (by omega) (by omega),zi0 a (b * 65536) 24 16777216 (by decide) (by omega),
  show a * 16777216+b * 65536=(a * 256+b) * 65536 by omega,u32_or_nat _ _ (by omega) (by omega),zi0 (a * 256+b) (c * 256) 16 65536 (by decide) (by omega),
  show (a * 256+b) * 65536+c * 256=((a * 256+b) * 256+c) * 256 by omega,u32_or_nat _ _ (by omega) (by omega),zi0 _ d 8 256 (by decide) (by omega)]

theorem zjH (n:Nat) (h:n < 4294967296):wrap64 (wrap32 (n:Int))=zlD n:=by
 unfold wrap64 wrap32 zlD
 split <;> omega

theorem zmy (a b c d:UInt8):wrap64 (wrap32 (bits BinOp.or IntKind.u32 (bits BinOp.or IntKind.u32 (bits BinOp.or IntKind.u32 ((a.toNat:Int) % 4294967296 * 16777216 % 4294967296) ((b.toNat:Int) % 4294967296 * 65536 % 4294967296)) ((c.toNat:Int) % 4294967296 * 256 % 4294967296)) ((d.toNat:Int) % 4294967296)))=numB [a,b,c,d]:=by
 have ha:=a.toNat_lt
 have hb:=b.toNat_lt
 have hc:=c.toNat_lt
 have hd:=d.toNat_lt
 rw [zrQ _ _ _ _ ha hb hc hd,zjH _ (by omega)]
 rfl

theorem zjF (v:Value) (a b c d:UInt8) (w:World) (hv:zbb w v [a,b,c,d]) :
  Calls Tryz.prog 107 #[v] w fun e w'=>e=.returned (I (numB [a,b,c,d]))/\Ext w w':=by
 obtain ⟨ao,cap,rfl,h1,h2,h3⟩:=hv.form;unfold maxLen at h2;clear hv;obtain ⟨b0,off,rfl,c0⟩:=h3 0 (by simp);obtain ⟨_,_,e1,c1⟩:=h3 1 (by simp);obtain ⟨_,_,e2,c2⟩:=h3 2 (by simp);obtain ⟨_,_,e3,c3⟩:=h3 3 (by simp);simp only [Option.some.injEq,Addr.mk.injEq,and_true] at e1 e2 e3;obtain ⟨rfl,rfl⟩:=e1;obtain ⟨rfl,rfl⟩:=e2;obtain ⟨rfl,rfl⟩:=e3;clear h3;simp only [Nat.add_zero,List.getD_cons_zero,List.getD_cons_succ,List.length_cons,List.length_nil] at *;go_enter Tryz.func107,Tryz.ntmps107
 go_wp2_with fail
 go_region
 go_wp2
 go_ret
 exact ⟨zej (zmy a b c d),(Ext.refl w).drew⟩

theorem znz (v:Value) (a b c d:UInt8) (w:World) (hv:zbb w v [a,b,c,d]) :
  Calls Tryz.prog 80 #[v] w fun e w'=>e=.returned (I (numB [a,b,c,d]))/\Ext w w':=by
 obtain ⟨ao,cap,rfl,h1,h2,h3⟩:=hv.form;unfold maxLen at h2;clear hv;obtain ⟨b0,off,rfl,c0⟩:=h3 0 (by simp);obtain ⟨_,_,e1,c1⟩:=h3 1 (by simp);obtain ⟨_,_,e2,c2⟩:=h3 2 (by simp);obtain ⟨_,_,e3,c3⟩:=h3 3 (by simp);simp only [Option.some.injEq,Addr.mk.injEq,and_true] at e1 e2 e3;obtain ⟨rfl,rfl⟩:=e1;obtain ⟨rfl,rfl⟩:=e2;obtain ⟨rfl,rfl⟩:=e3;clear h3;simp only [Nat.add_zero,List.getD_cons_zero,List.getD_cons_succ,List.length_cons,List.length_nil] at *;go_enter Tryz.func80,Tryz.ntmps80
 go_wp2
 go_loop [3,5] (fun u i=>(i=I 0/\u=.int .u32 0)∨(i=I 1/\u=.int .u32 (a.toNat:Int))∨(i=I 2/\u=.int .u32 ((a.toNat * 256+b.toNat:Nat):Int))∨(i=I 3/\u=.int .u32 (((a.toNat * 256+b.toNat) * 256+c.toNat:Nat):Int)) ∨
   (i=I 4/\u=.int .u32 ((((a.toNat * 256+b.toNat) * 256+c.toNat) * 256+d.toNat:Nat):Int))) (fun _ i=>4 - (intOf i).toNat)
 case atStart=>exact .inl ⟨rfl,rfl⟩
 case round =>
  have ha:=a.toNat_lt;have hb:=b.toNat_lt;have hc:=c.toNat_lt;have hd:=d.toNat_lt;rcases hrel with ⟨rfl,rfl⟩ | ⟨rfl,rfl⟩ | ⟨rfl,rfl⟩ | ⟨rfl,rfl⟩ | ⟨rfl,rfl⟩
  ·go_wp2
   go_round
   case rel=>exact .inr (.inl ⟨rfl,by simp⟩)
   case measure=>simp [intOf]
  ·go_wp2
   go_round
   case rel=>exact .inr (.inr (.inl ⟨rfl,congrArg (Value.int .u32) (by omega)⟩))
   case measure=>simp [intOf]
  ·go_wp2
   go_round
   case rel=>exact .inr (.inr (.inr (.inl ⟨rfl,congrArg (Value.int .u32) (by omega)⟩)))
   case measure=>simp [intOf]
  ·go_wp2
   go_round
   case rel=>exact .inr (.inr (.inr (.inr ⟨rfl,congrArg (Value.int .u32) (by omega)⟩)))
   case measure=>simp [intOf]
  ·go_wp2
   go_ret
   exact ⟨zej (Eq.trans (congrArg (fun x=>wrap64 (wrap32 x)) (by omega)) (zjH (((a.toNat * 256+b.toNat) * 256+c.toNat) * 256+d.toNat) (by omega))),Ext.refl w⟩

open Go.RowKit Go.Mk

theorem Tryz.infoByte:(Tryz.prog.info? 5).map (fun i=>(i.zero,i.size,i.bytes))=some (some (.int .u8 0),1,1):=by kernel_rfl

theorem byteU (n:Int):(Value.int .u8 (n % 256))=U (Mk.byteOf n):=by
 unfold Mk.byteOf
 refine congrArg (Value.int .u8) ?_
 rw [UInt8.toNat_ofNat']
 omega

theorem zjk (n:Int):[Value.int .u8 (n % 4294967296 / 16777216),.int .u8 (n % 4294967296 / 65536 % 256),.int .u8 (n % 4294967296 / 256 % 256),.int .u8 (n % 256)]=(zdo n).map U:=by
 unfold zdo u32
 simp only [List.map_cons,List.map_nil,U,UInt8.toNat_ofNat']
 refine congr (congrArg List.cons (congrArg (Value.int .u8) ?_)) (congr (congrArg List.cons (congrArg (Value.int .u8) ?_)) (congr (congrArg List.cons (congrArg (Value.int .u8) ?_)) (congrArg (fun x=>[Value.int .u8 x]) ?_)))
 all_goals omega

theorem zml (n:Int) (w:World) :
  Calls Tryz.prog 82 #[I n] w fun e w'=>e=.returned (.string ⟨(zdo n).toArray⟩)/\Ext w w':=by
 have hcv:=zds (P:=Tryz.prog) (zgN (w:=w) 5 (zdo n) #[.int .u8 (n % 4294967296 / 16777216),.int .u8 (n % 4294967296 / 65536 % 256),.int .u8 (n % 4294967296 / 256 % 256),.int .u8 (n % 256)] 4 (zjk n) rfl (by decide)) zhQ zu5 zu9;go_enter Tryz.func82,Tryz.ntmps82
 go_wp2
 go_ret
 exact ⟨rfl,(Ext.refl w).alloc _⟩

theorem zfj (base:Nat) (v:Value) (cs:List Value) (k:Nat) (n:Int) (w:World) (hv:w.ownsRow base 5 1 v k cs) (hk:k<=100) (hb:base<=w.heap.size) :
  Calls Tryz.prog 98 #[v,I n] w fun e w'=>∃ v',e=.returned v'/\w'.ownsRow base 5 1 v' (k+4) (cs++(zdo n).map U)/\w.grownBy w' v.ownBlock:=by
 have hlit:=zgN (w:=w) 5 (zdo n) #[.int .u8 (n % 4294967296 / 16777216),.int .u8 (n % 4294967296 / 65536 % 256),.int .u8 (n % 4294967296 / 256 % 256),.int .u8 (n % 256)] 4 (zjk n) rfl (by decide);have hgr:w.grownBy (w.alloc (.cells #[.int .u8 (n % 4294967296 / 16777216),.int .u8 (n % 4294967296 / 65536 % 256),.int .u8 (n % 4294967296 / 256 % 256),.int .u8 (n % 256)] 5)) v.ownBlock:=Ext.grownBy ((Ext.refl w).alloc _) _;have HV:=zhd hv;clear hv;go_enter Tryz.func98,Tryz.ntmps98
 go_wp2_with (at_builtin; refine zbw ?_)
 unfold Hid;obtain ⟨i0,hi,hz0,hz1,hz2⟩:=info_parts Tryz.infoByte;refine zaz _ rfl (.tmp 8) (.tmp 20) 78 rfl base 5 i0 (.int .u8 0) 1 1 zhQ hi hz0 hz1 hz2 rfl (by decide) v k cs rfl (HV.o.alloc _) _ rfl 4 ((zdo n).map U) hlit (zly _) (by omega) (by decide) (by simp; omega) ?_;intro v' w' ho hg;clear hi hz0 hz1 hz2 hlit;go_wp2
 go_ret
 exact ⟨v',rfl,ho,za1 hgr hg⟩

open Go.RowKit Go.Mk

theorem zp1 {w:World} {base e:Nat} (b:Nat) (cs:Array Value) (n:Nat) (hb:w.heap.size=b) (hbase:base<=b) (hm:n<=maxLen) (hc:cs.size=n):(w.alloc (.cells cs e)).ownsRow base e 1 (.slice (some ⟨b,0,none⟩) n n) n cs.toList:=by
 subst hb
 exact World.ownsRow_lit (base:=base) (e:=e) (size:=1) w cs n hbase hm (by omega)

theorem zos (c t k a o n:Int):[Value.int .u8 113,.int .u8 (c % 256),.int .u8 (t % 256),.int .u8 (k % 256),.int .u8 (a % 256),.int .u8 (o % 256)]++(zdo n).map U=(zcq ⟨c,t,⟨k,a,o,n⟩⟩).map U:=by
 rw [byteU,byteU,byteU,byteU,byteU]
 unfold zcq
 rw [List.map_append]
 rfl
theorem zn8 (c t e0 n:Int):[Value.int .u8 97,.int .u8 (c % 256),.int .u8 (t % 256),.int .u8 (e0 % 256)]++(zdo n).map U=(zch ⟨c,t,⟨e0,n⟩⟩).map U:=by
 rw [byteU,byteU,byteU]
 unfold zch
 rw [List.map_append]
 rfl

theorem zl4 (c t k a o n:Int) (w:World) :
  Calls Tryz.prog 87 #[RQ ⟨c,t,⟨k,a,o,n⟩⟩] w fun e w'=>∃ v',e=.returned v'/\w'.ownsRow w.heap.size 5 1 v' 10 ((zcq ⟨c,t,⟨k,a,o,n⟩⟩).map U)/\Ext w w':=by
 go_enter Tryz.func87,Tryz.ntmps87
 go_wp2_with fail
 refine (zfj w.heap.size _ _ 6 n _ (zp1 (w.heap.size+1+1) _ 6 (by simp) (by omega) (by decide) rfl) (by decide) (by simp; omega)).mono ?_;rintro e w1 ⟨v',rfl,ho,hg⟩
 have e1:Ext w w1:=Ext.grown ((((Ext.refl w).alloc _).alloc _).alloc _) hg (fun j hj=>by simp [Value.ownBlock] at hj; omega);clear hg;go_wp2
 go_ret
 exact ⟨v',rfl,by rw [<- zos]; exact ho,e1⟩

theorem ziG (c t e0 n:Int) (w:World) :
  Calls Tryz.prog 103 #[AN ⟨c,t,⟨e0,n⟩⟩] w fun e w'=>∃ v',e=.returned v'/\w'.ownsRow w.heap.size 5 1 v' 8 ((zch ⟨c,t,⟨e0,n⟩⟩).map U)/\Ext w w':=by
 go_enter Tryz.func103,Tryz.ntmps103
 go_wp2_with fail
 refine (zfj w.heap.size _ _ 4 n _ (zp1 (w.heap.size+1) _ 4 (by simp) (by omega) (by decide) rfl) (by decide) (by simp; omega)).mono ?_;rintro e w1 ⟨v',rfl,ho,hg⟩
 have e1:Ext w w1:=Ext.grown (((Ext.refl w).alloc _).alloc _) hg (fun j hj=>by simp [Value.ownBlock] at hj; omega);clear hg;go_wp2
 go_ret
 exact ⟨v',rfl,by rw [<- zn8]; exact ho,e1⟩

end Go.Proofs.YtdmipnnfoolelaeGreat

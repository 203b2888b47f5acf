/- Texts of the proof, merged: S2 M1a M1b E1 E2 E3 E4 E5 E6 E7 E8. -/
import Derived.Test.YtdmipnnfoolelafKTA
import Derived.Test.YtdmipnnfoolelafKTI
import Derived.Test.YtdmipnnfoolelafKTE
import Derived.Test.YtdmipnnfoolelafKTB
import Derived.BigRegion
import Derived.Test.YtdmipnnfoolelafKTC
import Derived.Lib.Hide
import Derived.Laws.BitsAllLaws
set_option maxHeartbeats 2000000

namespace Go.Proofs.Ytdmipnnfoolelaf
open Go.RowKit Go.Mk

theorem zgL {w wx:World} {o1 o2 o3:Obj} (h:Ext (((w.alloc o1).alloc o2).alloc o3) wx):wx.heap[w.heap.size]?=some o1/\wx.heap[w.heap.size+1]?=some o2/\wx.heap[w.heap.size+1+1]?=some o3:=by
 have h2:Ext ((w.alloc o1).alloc o2) wx:=((Ext.refl _).alloc o3).trans h
 refine ⟨zcX h2,zci h2,?_⟩
 have:=zbb h
 simpa using this

theorem zlo {s:St} {x y:Int} (h:¬ (0<=x/\x < (s.cells.length:Int))):zak s (x,y)=s:=if_neg h
theorem zmh {s:St} {j:Nat} {y:Int} (h:j < s.cells.length):zak s ((j:Int),y)={ s with cells:=zao s.cells [((j:Int),y)],undo:=((j:Int),s.cells.getD j 0)::s.undo }:=by
 unfold zak
 rw [if_pos ⟨by omega,by simp only []; omega⟩]
 rfl

theorem ziy (c u a p:Value) (s:St) (x y:Int) (w:World) (A:Nat->Prop) (h:Rd A (fun w=>zcm w [c,u,a,p] s) w) (hx:¬ (0<=x/\x < (s.cells.length:Int))) :
  zaU Try.prog 52 #[.agg #[c,u,a,p],.agg #[I x,I y]] w A (fun r w'=>Agg zcm (zak s (x,y)) r w'):=by
 rw [zlo hx];unfold zaU;obtain ⟨_,_,_,_,e,h1,h2,h3,h4⟩:=zd4 h;simp at e;obtain ⟨rfl,rfl,rfl,rfl⟩:=e;clear h;obtain ⟨ca,cc,rfl⟩:=zam h1.o;obtain ⟨ua,uc,rfl⟩:=zam h2.o;obtain ⟨aa,ac,rfl⟩:=zac h3.o;obtain ⟨pa,pc,rfl⟩:=zac h4.o;generalize hc:Value.slice ca s.cells.length cc=c at *;generalize hu:Value.slice ua s.undo.length uc=u at *;generalize ha:Value.slice aa s.answers.length ac=a at *;generalize hp:Value.slice pa s.past.length pc=p at *;have HC:=zhd hc;have HU:=zhd hu;have HAA:=zhd ha;have HP:=zhd hp;clear hc hu ha hp;have H1:=zhd h1;have H2:=zhd h2;have H3:=zhd h3;have H4:=zhd h4;clear h1 h2 h3 h4;generalize hn:s.cells.length=n at *;clear hn;have hc:=HC.o;have hu:=HU.o;have ha:=HAA.o;have hp:=HP.o;subst hc hu ha hp;by_cases h0:0<=x
 ·have hxn:¬ (x < (n:Int)):=fun h=>hx ⟨h0,h⟩;clear hx;go_enter Try.func52,Try.ntmps52
  go_wp2
  refine bodyPost_ret (by simp [results,Try.results52,go_sem]; rfl) rfl ?_;exact ⟨_,rfl,(((Ext.refl w).alloc _).alloc _).alloc _,((zdm (zcW H1.o H2.o H3.o H4.o)).ext ((((Ext.refl w).alloc _).alloc _).alloc _)).widen (fun _ _ h=>.inl h)⟩
 ·clear hx;go_enter Try.func52,Try.ntmps52
  go_wp2
  refine bodyPost_ret (by simp [results,Try.results52,go_sem]; rfl) rfl ?_;exact ⟨_,rfl,(((Ext.refl w).alloc _).alloc _).alloc _,((zdm (zcW H1.o H2.o H3.o H4.o)).ext ((((Ext.refl w).alloc _).alloc _).alloc _)).widen (fun _ _ h=>.inl h)⟩

theorem zjN (c u a p:Value) (s:St) (j:Nat) (y:Int) (w:World) (A:Nat->Prop) (h:Rd A (fun w=>zcm w [c,u,a,p] s) w) (hj:j < s.cells.length) (hr:s.cells.length * 8<=140737488355328) (hr2:(1+s.undo.length) * 16<=140737488355328) :
  zaU Try.prog 52 #[.agg #[c,u,a,p],.agg #[I j,I y]] w A (fun r w'=>Agg zcm (zak s ((j:Int),y)) r w'):=by
 rw [zmh hj];unfold zaU;obtain ⟨_,_,_,_,e,h1,h2,h3,h4⟩:=zd4 h;simp at e;obtain ⟨rfl,rfl,rfl,rfl⟩:=e;clear h;obtain ⟨ca,cc,rfl⟩:=zam h1.o;obtain ⟨ua,uc,rfl⟩:=zam h2.o;obtain ⟨aa,ac,rfl⟩:=zac h3.o;obtain ⟨pa,pc,rfl⟩:=zac h4.o;generalize hc:Value.slice ca s.cells.length cc=c at *;generalize hu:Value.slice ua s.undo.length uc=u at *;generalize ha:Value.slice aa s.answers.length ac=a at *;generalize hp:Value.slice pa s.past.length pc=p at *;have HC:=zhd hc;have HU:=zhd hu;have HAA:=zhd ha;have HP:=zhd hp;clear hc hu ha hp;obtain ⟨B,hB⟩:=zei A w.heap.size 3;have HK:=zhd hB;clear hB;have e0:Ext w (((w.alloc (.cells #[c,u,a,p] 30)).alloc (.cells #[I j,I y] 74)).alloc (.cells zT4 30)):=(((Ext.refl w).alloc _).alloc _).alloc _;have HB:=zhd (fun wx (h:Ext (((w.alloc (.cells #[c,u,a,p] 30)).alloc (.cells #[I j,I y] 74)).alloc (.cells zT4 30)) wx)=>zgL h);have hsz:(((w.alloc (.cells #[c,u,a,p] 30)).alloc (.cells #[I j,I y] 74)).alloc (.cells zT4 30)).heap.size=w.heap.size+3:=by simp
 have HSZ:=zhd hsz;clear hsz;replace h1:=(h1.widen HK.o.1).ext e0;replace h2:=(h2.widen HK.o.1).ext e0;replace h3:=(h3.widen HK.o.1).ext e0;replace h4:=(h4.widen HK.o.1).ext e0;have H1:=zhd h1;have H2:=zhd h2;have H3:=zhd h3;have H4:=zhd h4;clear h1 h2 h3 h4;have HR:=zhd hr;have HR2:=zhd hr2;clear hr hr2;have hc:=HC.o;have hu:=HU.o;have ha:=HAA.o;have hp:=HP.o;subst hc hu ha hp;go_enter Try.func52,Try.ntmps52
 have hjn:(j:Int) < (s.cells.length:Int):=by omega
 have hj0:(0:Int)<=(j:Int):=by omega
 go_wp2_with fail
 generalize hw0:((w.alloc (.cells #[.slice ca s.cells.length cc,.slice ua s.undo.length uc,.slice aa s.answers.length ac,.slice pa s.past.length pc] 30)).alloc (.cells #[I j,I y] 74)).alloc (.cells zT4 30)=w0 at *;clear hw0;obtain ⟨b0,b1,-⟩:=HB.o w0 (Ext.refl _);obtain ⟨x0,x1,x2,x3,-⟩:=zdo b0;obtain ⟨y0,y1,-⟩:=box2 b1;obtain ⟨_,cap',he,-,-,hcell⟩:=H1.o.o.form;simp at he;obtain ⟨rfl,rfl⟩:=he;obtain ⟨cb,co,rfl,hcj⟩:=hcell j hj;clear hcell b0 b1;generalize hold:s.cells.getD j 0=old at *;obtain ⟨i0,hi,hz0,hz1,hz2⟩:=info_parts Try.infoWrite;have HI:=zhd hi;clear hi;have hbs:w.heap.size+3=w0.heap.size:=HSZ.o.symm;refine zau 14 [none,none,none,none,none,none,none,none,none,some (.inr (zb5 w0.heap.size 74 2 1 (zat [((j:Int),old)]))),none,none,some (.inr fun v wx=>wx.ownsRow w0.heap.size 74 2 v (1+s.undo.length) (zat (((j:Int),old)::s.undo))),none] (by kernel_rfl) (by kernel_rfl) ?_ ?_
 ·exact ⟨trivial,trivial,trivial,trivial,trivial,trivial,trivial,trivial,trivial,zdP _ _ _ _ _,trivial,trivial,zbA _ _ _ _ _,trivial,trivial⟩
 (refine zaj (fun K hK=>?_); go_simp; first | refine hK _ ?_ | refine ⟨(fun h=>by cases h),hK _ ?_⟩; clear hK K)
 refine zax (I j) rfl (fun w' hw'=>by have q0:=hw'.cell y0; go_simp) ?_;refine zae fun K h=>?_; go_simp; refine h _ ?_; clear h K;(refine zaj (fun K hK=>?_); go_simp; first | refine hK _ ?_ | refine ⟨(fun h=>by cases h),hK _ ?_⟩; clear hK K)
 refine zax (.slice (some ⟨cb,co,none⟩) s.cells.length cc) rfl (fun w' hw'=>by have q0:=hw'.cell x0; go_simp) ?_;refine zae fun K h=>?_; go_simp; refine h _ ?_; clear h K;(refine zaj (fun K hK=>?_); go_simp; first | refine hK _ ?_ | refine ⟨(fun h=>by cases h),hK _ ?_⟩; clear hK K)
 refine zax (I j) rfl (fun w' hw'=>by have q0:=hw'.cell y0; go_simp) ?_;refine zae fun K h=>?_; go_simp; refine h _ ?_; clear h K;(refine zaj (fun K hK=>?_); go_simp; first | refine hK _ ?_ | refine ⟨(fun h=>by cases h),hK _ ?_⟩; clear hK K)
 refine zax (I old) rfl (fun w' hw'=>by have q0:=hw'.cell hcj; go_simp) ?_;refine zae fun K h=>?_; go_simp; refine h _ ?_; clear h K;(refine zaj (fun K hK=>?_); go_simp; first | refine hK _ ?_ | refine ⟨(fun h=>by cases h),hK _ ?_⟩; clear hK K)
 refine za0 _ rfl (fun w' hw' hk=>?_) (fun v25=>?_)
 ·have hsz:=hw'.size;clear hk;unfold zaI;go_simp
  exact ⟨(Ext.refl _).alloc _,zdR _ 1 hsz (by decide) rfl⟩
 refine zae fun K h=>?_; go_simp; refine h _ ?_; clear h K;(refine zaj (fun K hK=>?_); go_simp; first | refine hK _ ?_ | refine ⟨(fun h=>by cases h),hK _ ?_⟩; clear hK K)
 refine zax ((.slice ua s.undo.length uc)) rfl (fun w' hw'=>by have q0:=hw'.cell x1; go_simp) ?_;refine zae fun K h=>?_; go_simp; refine h _ ?_; clear h K;refine za0 _ rfl (fun w' hw' hk=>?_) (fun v28=>?_)
 ·have h25:zb5 w0.heap.size 74 2 1 (zat [((j:Int),old)]) v25 w':=hk 25 (by decide);obtain ⟨v',w'',hrun,ho,he⟩:=zbv (P:=Try.prog) w' w0.heap.size 26 26 74 i0 _ 2 16 zfr HI.o hz0 hz1 hz2 rfl (by decide) v25 1 _ h25 (.slice ua s.undo.length uc) s.undo.length _ (H2.o.o.ext hw') (zbp _) HR2.o (by decide) hw'.size;exact zcc rfl rfl rfl hrun he (by rw [<- za4] at ho; exact ho)
 refine zae fun K h=>?_; go_simp; refine h _ ?_; clear h K;(refine zaj (fun K hK=>?_); go_simp; first | refine hK _ ?_ | refine ⟨(fun h=>by cases h),hK _ ?_⟩; clear hK K)
 refine zaL ?_;intro w1 e1 hX;have ho1:w1.ownsRow w0.heap.size 74 2 v28 (1+s.undo.length) (zat (((j:Int),old)::s.undo)):=hX 28;clear hX x0 x1 x2 x3 y0 y1 hcj;have hq1:Rd B (fun w=>zan w v28 (((j:Int),old)::s.undo)) w1:=(zgw ho1).widen (fun k _ h=>HK.o.2.1 k (by omega));obtain ⟨va,vc,hvs⟩:=zam hq1.o;subst hvs;have HQ1:=zhd hq1;clear hq1 ho1;obtain ⟨b0,b1,b2⟩:=HB.o w1 e1;obtain ⟨x0,x1,x2,x3,f0,f1,f2,f3⟩:=zdo b0;obtain ⟨y0,y1,-⟩:=box2 b1;go_wp2_with fail
 clear x0 x1 x2 x3 f0 f1 f2 f3 y0 y1;have n0:¬ B w.heap.size:=HK.o.2.2.1 _ (Nat.le_refl _) (by omega);have n2:¬ B (w.heap.size+1+1):=HK.o.2.2.1 _ (by omega) (by omega);have m2:Ext w (w1.setCell ⟨w.heap.size,1,none⟩ (.slice va (s.undo.length+1) vc)):=(e0.trans e1).setCell (Nat.le_refl _) _;have k1:=(H1.o.ext e1).set n0 1 (.slice va (s.undo.length+1) vc);have k2:=HQ1.o.set n0 1 (.slice va (s.undo.length+1) vc);have k3:=(H3.o.ext e1).set n0 1 (.slice va (s.undo.length+1) vc);have k4:=(H4.o.ext e1).set n0 1 (.slice va (s.undo.length+1) vc)
 have c0:(w1.setCell ⟨w.heap.size,1,none⟩ (.slice va (s.undo.length+1) vc)).heap[w.heap.size]?=some (.cells #[.slice (some ⟨cb,co,none⟩) s.cells.length cc,.slice va (s.undo.length+1) vc,.slice aa s.answers.length ac,.slice pa s.past.length pc] 30 (0,0)):=by
  have:=heap_setCell_same _ _ 1 _ _ (.slice va (s.undo.length+1) vc) b0;simpa using this
 have c2:=zcZ (i:=1) (x:=.slice va (s.undo.length+1) vc) b2 (show w.heap.size+1+1≠w.heap.size by omega);have hs2:(w1.setCell ⟨w.heap.size,1,none⟩ (.slice va (s.undo.length+1) vc)).heap.size=w1.heap.size:=by simp
 have hle:w0.heap.size<=w1.heap.size:=e1.size;have hlit:=zcf (w:=w1.setCell ⟨w.heap.size,1,none⟩ (.slice va (s.undo.length+1) vc)) 74 [((j:Int),y)] #[I j,I y] 1 rfl rfl (by decide);rw [hs2] at hlit;generalize hw2:w1.setCell ⟨w.heap.size,1,none⟩ (.slice va (s.undo.length+1) vc)=w2 at *;clear hw2 b0 b1 b2 e1;refine (zhm _ _ s.cells [((j:Int),y)] _ (k1.o.ext ((Ext.refl w2).alloc _)) hlit HR.o (by simp)).to fun r w4 e4 ⟨n4,ho4⟩=>?_;have k5:Rd B (fun w=>zbo w r (zao s.cells [((j:Int),y)])) w4:=(zfj ho4).widen (fun k _ h=>HK.o.2.1 k (by simp at h; omega));replace e4:=((Ext.refl w2).alloc (.cells #[I j,I y] 74)).trans e4;obtain ⟨ra,rc,hrs⟩:=zam k5.o;subst hrs;have K2:=zhd (k2.ext e4);have K3:=zhd (k3.ext e4);have K4:=zhd (k4.ext e4);have K5:=zhd k5;have d0:=zc9 c0 e4;have d2:=zc9 c2 e4;have m4:=m2.trans e4;clear k1 k2 k3 k4 k5 ho4 hlit hs2 c0 c2 m2 e4 hle;obtain ⟨x0,x1,x2,x3,f0,f1,f2,f3⟩:=zdo d0;obtain ⟨y0,y1,y2,y3,g0,g1,g2,g3⟩:=zdo d2;go_wp2_with fail
 clear x0 x1 x2 x3 f0 f1 f2 f3 y0 y1 y2 y3 g0 g1 g2 g3;have d3:=set4 (zcZ (i:=0) (x:=.slice ra (zao s.cells [((j:Int),y)]).length rc) d2 (show w.heap.size+1+1≠w.heap.size by omega)) (.slice ra (zao s.cells [((j:Int),y)]).length rc) (.slice va (s.undo.length+1) vc) (.slice aa s.answers.length ac) (.slice pa s.past.length pc);obtain ⟨q0,q1,q2,q3,-⟩:=zdo d3;have m5:=zc5 (m4.setCell (p:=⟨w.heap.size,0,none⟩) (Nat.le_refl _) (.slice ra (zao s.cells [((j:Int),y)]).length rc)) (b:=w.heap.size+1+1) (by omega) (.slice ra (zao s.cells [((j:Int),y)]).length rc) (.slice va (s.undo.length+1) vc) (.slice aa s.answers.length ac) (.slice pa s.past.length pc);refine bodyPost_ret (by simp [results,Try.results52,go_sem,q0,q1,q2,q3]; rfl) rfl ?_;rw [hold];refine ⟨_,rfl,m5,Rd.widen (A:=B) (zdm (zcW (s:={ s with cells:=zao s.cells [((j:Int),y)],undo:=((j:Int),old)::s.undo }) ?_ ?_ ?_ ?_)) (fun k _ h=>HK.o.2.2.2 k h)⟩
 ·exact ((((K5.o.set n0 _ _).set n2 _ _).set n2 _ _).set n2 _ _).set n2 _ _
 ·exact ((((K2.o.set n0 _ _).set n2 _ _).set n2 _ _).set n2 _ _).set n2 _ _
 ·exact ((((K3.o.set n0 _ _).set n2 _ _).set n2 _ _).set n2 _ _).set n2 _ _
 ·exact ((((K4.o.set n0 _ _).set n2 _ _).set n2 _ _).set n2 _ _).set n2 _ _

theorem zfc (c u a p:Value) (s:St) (x y:Int) (w:World) (A:Nat->Prop) (h:Rd A (fun w=>zcm w [c,u,a,p] s) w) (hr:s.cells.length * 8<=140737488355328) (hr2:(1+s.undo.length) * 16<=140737488355328) :
  zaU Try.prog 52 #[.agg #[c,u,a,p],.agg #[I x,I y]] w A (fun r w'=>Agg zcm (zak s (x,y)) r w'):=by
 by_cases hx:0<=x/\x < (s.cells.length:Int)
 ·obtain ⟨j,rfl⟩:∃ j:Nat,x=(j:Int):=⟨x.toNat,by omega⟩
  exact zjN c u a p s j y w A h (by omega) hr hr2
 ·exact ziy c u a p s x y w A h hx

open Go.RowKit Go.Mk

theorem zeZ (n a b:Int) (w:World) :
  Calls Try.prog 89 #[I n,I a,I b] w fun e w'=>e=.returned (.bool (decide (a<=n/\n<=b)))/\w'=w:=by
 by_cases hi:a<=n
 ·go_enter Try.func89,Try.ntmps89
  go_wp2
  go_ret
  exact ⟨by simp [hi],rfl⟩
 ·go_enter Try.func89,Try.ntmps89
  go_wp2
  go_ret
  exact ⟨by simp; omega,rfl⟩

open Go.RowKit Go.Mk

theorem zeA (k a o n:Int) (w:World):Calls Try.prog 32 #[.agg #[I k,I a,I o,I n]] w fun e w'=>e=.returned (I (wrongCl ⟨k,a,o,n⟩))/\Ext w w':=by
 have hk2:k < 1∨6 < k∨k=1∨k=2∨k=3∨k=4∨k=5∨k=6:=by omega
 rcases hk2 with hk | hk | rfl | rfl | rfl | rfl | rfl | rfl
 all_goals
  go_enter Try.func32,Try.ntmps32
  go_wp2
 all_goals
  go_ret
  refine ⟨zeF ?_,(Ext.refl w).alloc _⟩
  unfold wrongCl
  dsimp only
  repeat' split
  all_goals omega

open Go.RowKit Go.Mk

abbrev RQ (r:Rq):Value:=.agg #[I r.client,I r.token,I r.call.kind,I r.call.name,I r.call.other,I r.call.n]
abbrev AN (a:An):Value:=.agg #[I a.client,I a.token,I a.reply.err,I a.reply.n]

theorem zdq (c t:Int) (w:World) :
  Calls Try.prog 83 #[I c,I t] w fun e w'=>e=.returned (.bool (decide (0<=c/\c < 3/\0<=t/\t < 8)))/\w'=w:=by
 by_cases h0:0<=c
 ·by_cases h1:c < 3
  ·by_cases h2:0<=t
   ·go_enter Try.func83,Try.ntmps83
    go_wp2
    go_ret
    exact ⟨zbM (by rw [Bool.eq_iff_iff]; simp; omega),rfl⟩
   ·go_enter Try.func83,Try.ntmps83
    go_wp2
    go_ret
    exact ⟨zbM (by rw [Bool.eq_iff_iff]; simp; omega),rfl⟩
  ·go_enter Try.func83,Try.ntmps83
   go_wp2
   go_ret
   exact ⟨zbM (by rw [Bool.eq_iff_iff]; simp; omega),rfl⟩
 ·go_enter Try.func83,Try.ntmps83
  go_wp2
  go_ret
  exact ⟨zbM (by rw [Bool.eq_iff_iff]; simp; omega),rfl⟩

open Go.RowKit Go.Mk

theorem zkM {c t k a o n:Int} (h:¬ (0<=c/\c < 3/\0<=t/\t < 8)):zbH ⟨c,t,⟨k,a,o,n⟩⟩=3:=if_pos h
theorem zjD {c t k a o n:Int} (h:0<=c/\c < 3/\0<=t/\t < 8):zbH ⟨c,t,⟨k,a,o,n⟩⟩=wrongCl ⟨k,a,o,n⟩:=if_neg (by simp [h])

theorem zfs (c t k a o n:Int) (w:World) :
  Calls Try.prog 72 #[RQ ⟨c,t,⟨k,a,o,n⟩⟩] w fun e w'=>e=.returned (I (zbH ⟨c,t,⟨k,a,o,n⟩⟩))/\Ext w w':=by
 by_cases hi:0<=c/\c < 3/\0<=t/\t < 8
 ·have hi':decide (0<=c/\c < 3/\0<=t/\t < 8)=true:=decide_eq_true hi;rw [zjD hi];clear hi;go_enter Try.func72,Try.ntmps72
  go_wp2_with (go_at_call 83; refine Calls.same (zdq _ _ _) ?_)
  refine Calls.exts (zeA k a o n _) (fun w1 e1=>?_);go_wp2
  go_ret
  exact ⟨rfl,((Ext.refl w).alloc _).trans e1⟩
 ·have hi':decide (0<=c/\c < 3/\0<=t/\t < 8)=false:=decide_eq_false hi;rw [zkM hi];clear hi;go_enter Try.func72,Try.ntmps72
  go_wp2_with (go_at_call 83; refine Calls.same (zdq _ _ _) ?_)
  go_ret
  exact ⟨rfl,(Ext.refl w).alloc _⟩

theorem zkb {c t e n:Int} (h:¬ (0<=c/\c < 3/\0<=t/\t < 8)):zbE ⟨c,t,⟨e,n⟩⟩=3:=if_pos (.inl h)
theorem zdv {c t e n:Int} (_h:0<=c/\c < 3/\0<=t/\t < 8) (h2:e < 0∨12 < e∨1073741824 < n∨n < -1073741824∨(0 < e/\n≠0)):zbE ⟨c,t,⟨e,n⟩⟩=3:=if_pos (.inr h2)
theorem zhn {c t e n:Int} (h:0<=c/\c < 3/\0<=t/\t < 8) (h2:¬ (e < 0∨12 < e∨1073741824 < n∨n < -1073741824∨(0 < e/\n≠0))):zbE ⟨c,t,⟨e,n⟩⟩=0:=if_neg (not_or.2 ⟨by simp [h],h2⟩)

theorem zfR (c t e0 n:Int) (w:World) :
  Calls Try.prog 70 #[AN ⟨c,t,⟨e0,n⟩⟩] w fun e w'=>e=.returned (I (zbE ⟨c,t,⟨e0,n⟩⟩))/\Ext w w':=by
 by_cases hi:0<=c/\c < 3/\0<=t/\t < 8
 case neg =>
  have hi':decide (0<=c/\c < 3/\0<=t/\t < 8)=false:=decide_eq_false hi;rw [zkb hi];clear hi;go_enter Try.func70,Try.ntmps70
  go_wp2_with (go_at_call 83; refine Calls.same (zdq _ _ _) ?_)
  go_ret
  exact ⟨rfl,(((Ext.refl w).alloc _).alloc _)⟩
 have hi':decide (0<=c/\c < 3/\0<=t/\t < 8)=true:=decide_eq_true hi;have h5:e0 < 0∨12 < e0∨1073741824 < n∨n < -1073741824∨(0 < e0/\n≠0)∨¬ (e0 < 0∨12 < e0∨1073741824 < n∨n < -1073741824∨(0 < e0/\n≠0)):=by omega
 have e1:Ext w (((w.alloc (.cells #[I c,I t,I e0,I n] 96)).alloc (.cells #[I e0,I n] 38))):=(((Ext.refl w).alloc _).alloc _);have HI:=zhd hi;clear hi;by_cases q1:e0 < 0
 ·rw [zdv HI.o (.inl q1)];go_enter Try.func70,Try.ntmps70
  go_wp2_with (go_at_call 83; refine Calls.same (zdq _ _ _) ?_)
  go_ret
  exact ⟨rfl,e1⟩
 by_cases q2:12 < e0
 ·rw [zdv HI.o (.inr (.inl q2))];go_enter Try.func70,Try.ntmps70
  go_wp2_with (go_at_call 83; refine Calls.same (zdq _ _ _) ?_)
  go_ret
  exact ⟨rfl,e1⟩
 by_cases q3:1073741824 < n
 ·rw [zdv HI.o (.inr (.inr (.inl q3)))];go_enter Try.func70,Try.ntmps70
  go_wp2_with (go_at_call 83; refine Calls.same (zdq _ _ _) ?_)
  go_ret
  exact ⟨rfl,e1⟩
 by_cases q4:n < -1073741824
 ·rw [zdv HI.o (.inr (.inr (.inr (.inl q4))))];go_enter Try.func70,Try.ntmps70
  go_wp2_with (go_at_call 83; refine Calls.same (zdq _ _ _) ?_)
  go_ret
  exact ⟨rfl,e1⟩
 by_cases q5:0 < e0
 ·by_cases q6:n=0
  ·rw [zhn HI.o (by omega)];have q7:(n != 0)=false:=by simp [q6]
   go_enter Try.func70,Try.ntmps70
   go_wp2_with (go_at_call 83; refine Calls.same (zdq _ _ _) ?_)
   go_ret
   exact ⟨rfl,(((Ext.refl w).alloc _).alloc _)⟩
  ·rw [zdv HI.o (.inr (.inr (.inr (.inr ⟨q5,q6⟩))))];have q7:(n != 0)=true:=by simpa using q6
   go_enter Try.func70,Try.ntmps70
   go_wp2_with (go_at_call 83; refine Calls.same (zdq _ _ _) ?_)
   go_ret
   exact ⟨rfl,e1⟩
 ·rw [zhn HI.o (by omega)];go_enter Try.func70,Try.ntmps70
  go_wp2_with (go_at_call 83; refine Calls.same (zdq _ _ _) ?_)
  go_ret
  exact ⟨rfl,e1⟩

open Go.RowKit Go.Mk

theorem zkp (n:Nat) (h:n < 4294967296):wrap64 (wrap32 (n:Int))=zjb n:=by
 unfold wrap64 wrap32 zjb
 split <;> omega

theorem zkW (v:Value) (a b c d:UInt8) (w:World) (hv:zbk w v [a,b,c,d]) :
  Calls Try.prog 69 #[v] w fun e w'=>e=.returned (I (numB [a,b,c,d]))/\Ext w w':=by
 obtain ⟨ao,cap,rfl,h1,h2,h3⟩:=hv.form;unfold maxLen at h2;clear hv;obtain ⟨b0,off,rfl,c0⟩:=h3 0 (by simp);obtain ⟨_,_,e1,c1⟩:=h3 1 (by simp);obtain ⟨_,_,e2,c2⟩:=h3 2 (by simp);obtain ⟨_,_,e3,c3⟩:=h3 3 (by simp);simp only [Option.some.injEq,Addr.mk.injEq,and_true] at e1 e2 e3;obtain ⟨rfl,rfl⟩:=e1;obtain ⟨rfl,rfl⟩:=e2;obtain ⟨rfl,rfl⟩:=e3;clear h3;simp only [Nat.add_zero,List.getD_cons_zero,List.getD_cons_succ,List.length_cons,List.length_nil] at *;go_enter Try.func69,Try.ntmps69
 go_wp2
 go_loop [3,5] (fun u i=>(i=I 0/\u=.int .u32 0)∨(i=I 1/\u=.int .u32 (a.toNat:Int))∨(i=I 2/\u=.int .u32 ((a.toNat * 256+b.toNat:Nat):Int))∨(i=I 3/\u=.int .u32 (((a.toNat * 256+b.toNat) * 256+c.toNat:Nat):Int)) ∨
   (i=I 4/\u=.int .u32 ((((a.toNat * 256+b.toNat) * 256+c.toNat) * 256+d.toNat:Nat):Int))) (fun _ i=>4 - (intOf i).toNat)
 case atStart=>exact .inl ⟨rfl,rfl⟩
 case round =>
  have ha:=a.toNat_lt;have hb:=b.toNat_lt;have hc:=c.toNat_lt;have hd:=d.toNat_lt;rcases hrel with ⟨rfl,rfl⟩ | ⟨rfl,rfl⟩ | ⟨rfl,rfl⟩ | ⟨rfl,rfl⟩ | ⟨rfl,rfl⟩
  ·go_wp2
   go_round
   case rel=>exact .inr (.inl ⟨rfl,by simp⟩)
   case measure=>simp [intOf]
  ·go_wp2
   go_round
   case rel=>exact .inr (.inr (.inl ⟨rfl,congrArg (Value.int .u32) (by omega)⟩))
   case measure=>simp [intOf]
  ·go_wp2
   go_round
   case rel=>exact .inr (.inr (.inr (.inl ⟨rfl,congrArg (Value.int .u32) (by omega)⟩)))
   case measure=>simp [intOf]
  ·go_wp2
   go_round
   case rel=>exact .inr (.inr (.inr (.inr ⟨rfl,congrArg (Value.int .u32) (by omega)⟩)))
   case measure=>simp [intOf]
  ·go_wp2
   go_ret
   exact ⟨zeF (Eq.trans (congrArg (fun x=>wrap64 (wrap32 x)) (by omega)) (zkp (((a.toNat * 256+b.toNat) * 256+c.toNat) * 256+d.toNat) (by omega))),Ext.refl w⟩

open Go.RowKit Go.Mk

theorem zoA (n:Int):(Value.int .u8 (n % 256))=U (Mk.byteOf n):=by
 unfold Mk.byteOf
 refine congrArg (Value.int .u8) ?_
 rw [UInt8.toNat_ofNat']
 omega

theorem zka (n:Int):[Value.int .u8 (n % 4294967296 / 16777216),.int .u8 (n % 4294967296 / 65536 % 256),.int .u8 (n % 4294967296 / 256 % 256),.int .u8 (n % 256)]=(zdC n).map U:=by
 unfold zdC u32
 simp only [List.map_cons,List.map_nil,U,UInt8.toNat_ofNat']
 refine congr (congrArg List.cons (congrArg (Value.int .u8) ?_)) (congr (congrArg List.cons (congrArg (Value.int .u8) ?_)) (congr (congrArg List.cons (congrArg (Value.int .u8) ?_)) (congrArg (fun x=>[Value.int .u8 x]) ?_)))
 all_goals omega

theorem zji (n:Int) (w:World) :
  Calls Try.prog 71 #[I n] w fun e w'=>e=.returned (.string ⟨(zdC n).toArray⟩)/\Ext w w':=by
 have hcv:=zed (P:=Try.prog) (zgv (w:=w) 5 (zdC n) #[.int .u8 (n % 4294967296 / 16777216),.int .u8 (n % 4294967296 / 65536 % 256),.int .u8 (n % 4294967296 / 256 % 256),.int .u8 (n % 256)] 4 (zka n) rfl (by decide)) zm2 zu5 zu9;go_enter Try.func71,Try.ntmps71
 go_wp2
 go_ret
 exact ⟨rfl,(Ext.refl w).alloc _⟩

open Go.RowKit Go.Mk

open Go.RowKit Go.Mk

theorem wrapU (n:Int):(Value.int .u8 (IntKind.u8.wrap n))=U (Mk.byteOf n):=by
 rw [<- zoA]
 refine congrArg (Value.int .u8) ?_
 unfold IntKind.wrap
 simp [IntKind.signed,IntKind.bits]

theorem zew (c t k a o n:Int) (w:World) :
  zba Try.prog 51 #[RQ ⟨c,t,⟨k,a,o,n⟩⟩] w fun v w'=>zcA w.heap.size w' v (zc0 ⟨c,t,⟨k,a,o,n⟩⟩):=by
 unfold zba;have e0:Ext w (w.alloc (.cells #[I c,I t,I k,I a,I o,I n] 35)):=(Ext.refl w).alloc _
 have HB:Hid (∀ wx,Ext (w.alloc (.cells #[I c,I t,I k,I a,I o,I n] 35)) wx->wx.cell? ⟨w.heap.size,0,none⟩=some (I c)/\wx.cell? ⟨w.heap.size,1,none⟩=some (I t)/\wx.cell? ⟨w.heap.size,2,none⟩=some (I k)/\wx.cell? ⟨w.heap.size,3,none⟩=some (I a)/\wx.cell? ⟨w.heap.size,4,none⟩=some (I o)/\wx.cell? ⟨w.heap.size,5,none⟩=some (I n)):=fun wx hx =>
  ⟨hx.cell (by simp),hx.cell (by simp),hx.cell (by simp),hx.cell (by simp),hx.cell (by simp),hx.cell (by simp)⟩
 go_enter Try.func51,Try.ntmps51
 go_wp2_with fail
 generalize hw0:w.alloc (.cells #[I c,I t,I k,I a,I o,I n] 35)=w0 at *;have HW0:=zhd hw0;clear hw0;obtain ⟨c0,c1,c2,c3,c4,c5⟩:=HB.o w0 (Ext.refl _)
 refine zaR [none,none,none,none,none,none,none,none,none,none,none,none,none,none,none,none,none,none,
  some (.inr fun v wx=>zbk wx v [Mk.byteOf c,Mk.byteOf t,Mk.byteOf k,Mk.byteOf a,Mk.byteOf o]),some (.inl (.string ⟨#[Mk.byteOf c,Mk.byteOf t,Mk.byteOf k,Mk.byteOf a,Mk.byteOf o]⟩)),some (.inl (.string ⟨#[113,Mk.byteOf c,Mk.byteOf t,Mk.byteOf k,Mk.byteOf a,Mk.byteOf o]⟩)),none,none,none,
  some (.inl (.string ⟨(zdC n).toArray⟩)),some (.inl (.string ⟨(zc0 ⟨c,t,⟨k,a,o,n⟩⟩).toArray⟩)),some (.inr fun v wx=>zcA w.heap.size wx v (zc0 ⟨c,t,⟨k,a,o,n⟩⟩)),none] (by kernel_rfl) (by kernel_rfl) ?_ ?_
 ·exact ⟨trivial,trivial,trivial,trivial,trivial,trivial,trivial,trivial,trivial,trivial,trivial,trivial,trivial,trivial,trivial,trivial,trivial,trivial,zih _,trivial,trivial,trivial,trivial,trivial,trivial,trivial,zdZ _ _,trivial,trivial⟩
 (refine zaj (fun K hK=>?_); go_simp; refine hK _ ?_; clear hK K)
 refine zax (I c) rfl (fun w' hw'=>by have q0:=hw'.cell c0; go_simp) ?_;iterate 2 (refine zaj (fun K hK=>?_); go_simp; refine hK _ ?_; clear hK K)
 refine zax (I t) rfl (fun w' hw'=>by have q0:=hw'.cell c1; go_simp) ?_;iterate 3 (refine zaj (fun K hK=>?_); go_simp; refine hK _ ?_; clear hK K)
 refine zax (I k) rfl (fun w' hw'=>by have q0:=hw'.cell c2; go_simp) ?_;iterate 3 (refine zaj (fun K hK=>?_); go_simp; refine hK _ ?_; clear hK K)
 refine zax (I a) rfl (fun w' hw'=>by have q0:=hw'.cell c3; go_simp) ?_;iterate 3 (refine zaj (fun K hK=>?_); go_simp; refine hK _ ?_; clear hK K)
 refine zax (I o) rfl (fun w' hw'=>by have q0:=hw'.cell c4; go_simp) ?_;(refine zaj (fun K hK=>?_); go_simp; refine hK _ ?_; clear hK K)
 refine za0 _ rfl (fun w' hw' _=>?_) (fun v21=>?_)
 ·unfold zaI;go_simp
  exact ⟨(Ext.refl _).alloc _,zgv _ _ _ 5 (by rw [wrapU,wrapU,wrapU,wrapU,wrapU]; rfl) rfl (by decide)⟩
 refine zdd _ rfl (fun w' hw' hk=>?_) ?_
 ·have h21:zbk w' v21 [Mk.byteOf c,Mk.byteOf t,Mk.byteOf k,Mk.byteOf a,Mk.byteOf o]:=hk 21 (by decide);have hcv:=zed (P:=Try.prog) h21 zm2 zu5 zu9;clear hk;unfold zaI;go_simp
  exact ⟨Ext.refl _,rfl⟩
 refine zae fun K h=>?_; go_simp; refine h _ ?_; clear h K;refine zdd _ rfl (fun w' hw' _=>?_) ?_
 ·have ha:=run_string_add_lists (P:=Try.prog) w' [113] [Mk.byteOf c,Mk.byteOf t,Mk.byteOf k,Mk.byteOf a,Mk.byteOf o] (by decide) (by simp);unfold zaI;go_simp
  exact ⟨Ext.refl _,rfl⟩
 refine zae fun K h=>?_; go_simp; refine h _ ?_; clear h K;iterate 2 (refine zaj (fun K hK=>?_); go_simp; refine hK _ ?_; clear hK K)
 refine zax (I n) rfl (fun w' hw'=>by have q0:=hw'.cell c5; go_simp) ?_;refine zdd _ rfl (fun w' hw' _=>?_) ?_
 ·have hg:=zb6 (zji n w');unfold zaI;go_simp
  exact ⟨Ext.refl _,hg⟩
 refine zae fun K h=>?_; go_simp; refine h _ ?_; clear h K;refine zdd _ rfl (fun w' hw' _=>?_) ?_
 ·have ha:=run_string_add_lists (P:=Try.prog) w' [113,Mk.byteOf c,Mk.byteOf t,Mk.byteOf k,Mk.byteOf a,Mk.byteOf o] (zdC n) (by simp) (by simp [zdC]);unfold zaI;go_simp
  exact ⟨Ext.refl _,rfl⟩
 refine zae fun K h=>?_; go_simp; refine h _ ?_; clear h K;refine za0 _ rfl (fun w' hw' _=>?_) (fun v29=>?_)
 ·have ha:=run_bytes_of_string (P:=Try.prog) w' 9 79 5 ⟨(zc0 ⟨c,t,⟨k,a,o,n⟩⟩).toArray⟩ zu9 zm2 zu5;unfold zaI;go_simp
  exact ⟨(Ext.refl _).drew.alloc _,_,_,_,_,rfl,Nat.le_trans (by rw [<- HW0.o]; simp) hw'.size,zeS w' 5 (zc0 ⟨c,t,⟨k,a,o,n⟩⟩) (show 10<=maxLen by decide) _⟩
 (refine zaj (fun K hK=>?_); go_simp; refine hK _ ?_; clear hK K)
 refine zaL ?_;intro w4 he4 hX;have hr:zcA w.heap.size w4 v29 (zc0 ⟨c,t,⟨k,a,o,n⟩⟩):=hX 29;clear hX c0 c1 c2 c3 c4 c5;go_wp2
 go_ret
 exact ⟨v29,rfl,e0.trans he4,hr⟩

theorem zeU (c t x n:Int) (w:World) :
  zba Try.prog 53 #[AN ⟨c,t,⟨x,n⟩⟩] w fun v w'=>zcA w.heap.size w' v (zce ⟨c,t,⟨x,n⟩⟩):=by
 unfold zba;have e0:Ext w (w.alloc (.cells #[I c,I t,I x,I n] 96)):=(Ext.refl w).alloc _
 have HB:Hid (∀ wx,Ext (w.alloc (.cells #[I c,I t,I x,I n] 96)) wx->wx.cell? ⟨w.heap.size,0,none⟩=some (I c)/\wx.cell? ⟨w.heap.size,1,none⟩=some (I t)/\wx.cell? ⟨w.heap.size,2,none⟩=some (I x)/\wx.cell? ⟨w.heap.size,3,none⟩=some (I n)):=fun wx hx =>
  ⟨hx.cell (by simp),hx.cell (by simp),hx.cell (by simp),hx.cell (by simp)⟩
 go_enter Try.func53,Try.ntmps53
 go_wp2_with fail
 generalize hw0:w.alloc (.cells #[I c,I t,I x,I n] 96)=w0 at *;have HW0:=zhd hw0;clear hw0;obtain ⟨c0,c1,c2,c3⟩:=HB.o w0 (Ext.refl _)
 refine zaR [none,none,none,none,none,none,none,none,none,none,
  some (.inr fun v wx=>zbk wx v [Mk.byteOf c,Mk.byteOf t,Mk.byteOf x]),some (.inl (.string ⟨#[Mk.byteOf c,Mk.byteOf t,Mk.byteOf x]⟩)),some (.inl (.string ⟨#[97,Mk.byteOf c,Mk.byteOf t,Mk.byteOf x]⟩)),none,none,none,
  some (.inl (.string ⟨(zdC n).toArray⟩)),some (.inl (.string ⟨(zce ⟨c,t,⟨x,n⟩⟩).toArray⟩)),some (.inr fun v wx=>zcA w.heap.size wx v (zce ⟨c,t,⟨x,n⟩⟩)),none] (by kernel_rfl) (by kernel_rfl) ?_ ?_
 ·exact ⟨trivial,trivial,trivial,trivial,trivial,trivial,trivial,trivial,trivial,trivial,zih _,trivial,trivial,trivial,trivial,trivial,trivial,trivial,zdZ _ _,trivial,trivial⟩
 (refine zaj (fun K hK=>?_); go_simp; refine hK _ ?_; clear hK K)
 refine zax (I c) rfl (fun w' hw'=>by have q0:=hw'.cell c0; go_simp) ?_;iterate 2 (refine zaj (fun K hK=>?_); go_simp; refine hK _ ?_; clear hK K)
 refine zax (I t) rfl (fun w' hw'=>by have q0:=hw'.cell c1; go_simp) ?_;iterate 3 (refine zaj (fun K hK=>?_); go_simp; refine hK _ ?_; clear hK K)
 refine zax (I x) rfl (fun w' hw'=>by have q0:=hw'.cell c2; go_simp) ?_;(refine zaj (fun K hK=>?_); go_simp; refine hK _ ?_; clear hK K)
 refine za0 _ rfl (fun w' hw' _=>?_) (fun v13=>?_)
 ·unfold zaI;go_simp
  exact ⟨(Ext.refl _).alloc _,zgv _ _ _ 3 (by rw [wrapU,wrapU,wrapU]; rfl) rfl (by decide)⟩
 refine zdd _ rfl (fun w' hw' hk=>?_) ?_
 ·have h13:zbk w' v13 [Mk.byteOf c,Mk.byteOf t,Mk.byteOf x]:=hk 13 (by decide);have hcv:=zed (P:=Try.prog) h13 zm2 zu5 zu9;clear hk;unfold zaI;go_simp
  exact ⟨Ext.refl _,rfl⟩
 refine zae fun K h=>?_; go_simp; refine h _ ?_; clear h K;refine zdd _ rfl (fun w' hw' _=>?_) ?_
 ·have ha:=run_string_add_lists (P:=Try.prog) w' [97] [Mk.byteOf c,Mk.byteOf t,Mk.byteOf x] (by decide) (by simp);unfold zaI;go_simp
  exact ⟨Ext.refl _,rfl⟩
 refine zae fun K h=>?_; go_simp; refine h _ ?_; clear h K;iterate 2 (refine zaj (fun K hK=>?_); go_simp; refine hK _ ?_; clear hK K)
 refine zax (I n) rfl (fun w' hw'=>by have q0:=hw'.cell c3; go_simp) ?_;refine zdd _ rfl (fun w' hw' _=>?_) ?_
 ·have hg:=zb6 (zji n w');unfold zaI;go_simp
  exact ⟨Ext.refl _,hg⟩
 refine zae fun K h=>?_; go_simp; refine h _ ?_; clear h K;refine zdd _ rfl (fun w' hw' _=>?_) ?_
 ·have ha:=run_string_add_lists (P:=Try.prog) w' [97,Mk.byteOf c,Mk.byteOf t,Mk.byteOf x] (zdC n) (by simp) (by simp [zdC]);unfold zaI;go_simp
  exact ⟨Ext.refl _,rfl⟩
 refine zae fun K h=>?_; go_simp; refine h _ ?_; clear h K;refine za0 _ rfl (fun w' hw' _=>?_) (fun v21=>?_)
 ·have ha:=run_bytes_of_string (P:=Try.prog) w' 9 79 5 ⟨(zce ⟨c,t,⟨x,n⟩⟩).toArray⟩ zu9 zm2 zu5;unfold zaI;go_simp
  exact ⟨(Ext.refl _).drew.alloc _,_,_,_,_,rfl,Nat.le_trans (by rw [<- HW0.o]; simp) hw'.size,zeS w' 5 (zce ⟨c,t,⟨x,n⟩⟩) (show 8<=maxLen by decide) _⟩
 (refine zaj (fun K hK=>?_); go_simp; refine hK _ ?_; clear hK K)
 refine zaL ?_;intro w4 he4 hX;have hr:zcA w.heap.size w4 v21 (zce ⟨c,t,⟨x,n⟩⟩):=hX 21;clear hX c0 c1 c2 c3;go_wp2
 go_ret
 exact ⟨v21,rfl,e0.trans he4,hr⟩

open Go.RowKit Go.Mk

theorem znu {w:World} {v:Value} {b0 b1 b2 b3 b4 b5 b6 b7 b8 b9:UInt8} (h:zbk w v [b0,b1,b2,b3,b4,b5,b6,b7,b8,b9]):∃ b off cap,v=.slice (some ⟨b,off,none⟩) 10 cap/\10<=cap/\cap<=maxLen /\
  (w.cell? ⟨b,off,none⟩=some (U b0)/\w.cell? ⟨b,off+1,none⟩=some (U b1)/\w.cell? ⟨b,off+2,none⟩=some (U b2)/\w.cell? ⟨b,off+3,none⟩=some (U b3)/\w.cell? ⟨b,off+4,none⟩=some (U b4)/\w.cell? ⟨b,off+5,none⟩=some (U b5)) /\
   zbk w (.slice (some ⟨b,off+6,none⟩) 4 (cap - 6)) [b6,b7,b8,b9]:=by
 obtain ⟨ao,cap,rfl,h1,h2,h3⟩:=h.form
 obtain ⟨b,off,rfl,c0⟩:=h3 0 (by simp)
 refine ⟨b,off,cap,rfl,h1,h2,⟨c0,?_,?_,?_,?_,?_⟩,h.drop 6 (by simp)⟩
 ·obtain ⟨_,_,e1,c1⟩:=h3 1 (by simp); cases e1; exact c1
 ·obtain ⟨_,_,e1,c1⟩:=h3 2 (by simp); cases e1; exact c1
 ·obtain ⟨_,_,e1,c1⟩:=h3 3 (by simp); cases e1; exact c1
 ·obtain ⟨_,_,e1,c1⟩:=h3 4 (by simp); cases e1; exact c1
 ·obtain ⟨_,_,e1,c1⟩:=h3 5 (by simp); cases e1; exact c1

theorem zn0 {w:World} {v:Value} {b0 b1 b2 b3 b4 b5 b6 b7:UInt8} (h:zbk w v [b0,b1,b2,b3,b4,b5,b6,b7]):∃ b off cap,v=.slice (some ⟨b,off,none⟩) 8 cap/\8<=cap/\cap<=maxLen /\
  (w.cell? ⟨b,off,none⟩=some (U b0)/\w.cell? ⟨b,off+1,none⟩=some (U b1)/\w.cell? ⟨b,off+2,none⟩=some (U b2)/\w.cell? ⟨b,off+3,none⟩=some (U b3)) /\
   zbk w (.slice (some ⟨b,off+4,none⟩) 4 (cap - 4)) [b4,b5,b6,b7]:=by
 obtain ⟨ao,cap,rfl,h1,h2,h3⟩:=h.form
 obtain ⟨b,off,rfl,c0⟩:=h3 0 (by simp)
 refine ⟨b,off,cap,rfl,h1,h2,⟨c0,?_,?_,?_⟩,h.drop 4 (by simp)⟩
 ·obtain ⟨_,_,e1,c1⟩:=h3 1 (by simp); cases e1; exact c1
 ·obtain ⟨_,_,e1,c1⟩:=h3 2 (by simp); cases e1; exact c1
 ·obtain ⟨_,_,e1,c1⟩:=h3 3 (by simp); cases e1; exact c1

theorem zgm (x:UInt8):IntKind.i64.wrap (x.toNat:Int)=(x.toNat:Int):=by
 have:=x.toNat_lt
 unfold IntKind.wrap
 simp [IntKind.signed,IntKind.bits]
 omega

theorem zjj {l:List UInt8} (h:¬ (l.length=10/\l.getD 0 0=113)):readRq l=(zeroRq,2):=if_pos (by by_cases h1:l.length=10 <;> simp_all)
theorem zjJ {l:List UInt8} (h:¬ (l.length=8/\l.getD 0 0=97)):readAn l=(zeroAn,2):=if_pos (by by_cases h1:l.length=8 <;> simp_all)

theorem znY {l:List UInt8} (h:l.length=10/\l.getD 0 0=113):∃ b1 b2 b3 b4 b5 b6 b7 b8 b9,l=[113,b1,b2,b3,b4,b5,b6,b7,b8,b9]:=by
 obtain ⟨h1,h2⟩:=h
 match l,h1,h2 with
 | [b0,b1,b2,b3,b4,b5,b6,b7,b8,b9],_,h0 =>
  have h0:b0=113:=h0
  subst h0
  exact ⟨_,_,_,_,_,_,_,_,_,rfl⟩
theorem zm4 {l:List UInt8} (h:l.length=8/\l.getD 0 0=97):∃ b1 b2 b3 b4 b5 b6 b7,l=[97,b1,b2,b3,b4,b5,b6,b7]:=by
 obtain ⟨h1,h2⟩:=h
 match l,h1,h2 with
 | [b0,b1,b2,b3,b4,b5,b6,b7],_,h0 =>
  have h0:b0=97:=h0
  subst h0
  exact ⟨_,_,_,_,_,_,_,rfl⟩

open Go.RowKit Go.Mk

end Go.Proofs.Ytdmipnnfoolelaf

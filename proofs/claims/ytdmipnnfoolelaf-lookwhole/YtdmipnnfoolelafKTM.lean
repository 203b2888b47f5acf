/- Texts of the proof, merged: S7 N1 V1. -/
import Derived.Test.YtdmipnnfoolelafKTA
import Derived.Test.YtdmipnnfoolelafKTL
import Derived.Test.YtdmipnnfoolelafKTE
import Derived.Test.YtdmipnnfoolelafKTJ
set_option maxHeartbeats 2000000
set_option maxRecDepth 100000

namespace Go.Proofs.Ytdmipnnfoolelaf
open Go.RowKit Go.Mk

theorem zmE (v:Value) (xs:List Int) (w:World) (hv:zbo w v xs) (hr:xs.length * 8<=140737488355328) :
  zba Try.prog 63 #[v] w fun r w'=>w'.ownsRow w.heap.size 3 1 r xs.length (xs.map I):=by
 unfold zba;obtain ⟨i0,hi,hz0,hz1,hz2⟩:=info_parts Try.infoInt;have hsz:(Try.prog.info? 3).map (·.size)=some 1:=by rw [hi]; simp [hz1]
 have hrow:Row w 1 v xs.length (xs.map I):=hv;clear hv;obtain ⟨hlen,ao,cap,rfl,h1,h2,h0,h3⟩:=hrow;unfold maxLen at h2;go_enter Try.func63,Try.ntmps63
 go_wp2_with (at_make; refine wpList_make_full _ rfl _ _ 25 rfl w.heap.size 3 i0 (.int .i64 0) 1 zj8 hi hz0 hz1 .i64 .i64 _ _ xs.length rfl rfl rfl rfl (by rw [hz2]; omega) (by unfold maxLen; omega) (Nat.le_refl _) ?_; intro w1 hown hgrow)
 have he1:Ext w w1:=(Ext.refl w).grown hgrow (fun k hk=>by cases hk);obtain ⟨w2,hrun,hown2,hgrow2⟩:=zc2 (P:=Try.prog) w1 25 3 3 1 zj8 hsz w.heap.size w.heap.size xs.length _ (xs.map I) _ hown (Row.ext ⟨hlen,ao,cap,rfl,h1,h2,h0,h3⟩ he1) (zhg xs);have he2:Ext w w2:=he1.grown hgrow2 (fun k hk=>by cases hk; exact Nat.le_refl _);rw [hrun];clear hrun hown hgrow hgrow2 he1 h3;go_wp2
 go_ret
 exact ⟨_,rfl,he2,hown2⟩

theorem zkK (v:Value) (xs:List (Int×Int)) (w:World) (hv:zan w v xs) (hr:xs.length * 16<=140737488355328) :
  zba Try.prog 64 #[v] w fun r w'=>w'.ownsRow w.heap.size 74 2 r xs.length (zat xs):=by
 unfold zba;obtain ⟨i0,hi,hz0,hz1,hz2⟩:=info_parts Try.infoWrite;have hsz:(Try.prog.info? 74).map (·.size)=some 2:=by rw [hi]; simp [hz1]
 have hrow:Row w 2 v xs.length (zat xs):=hv;clear hv;obtain ⟨hlen,ao,cap,rfl,h1,h2,h0,h3⟩:=hrow;unfold maxLen at h2;go_enter Try.func64,Try.ntmps64
 go_wp2_with (at_make; refine wpList_make_full _ rfl _ _ 26 rfl w.heap.size 74 i0 (.agg #[.int .i64 0,.int .i64 0]) 2 zfr hi hz0 hz1 .i64 .i64 _ _ xs.length rfl rfl rfl rfl (by rw [hz2]; omega) (by unfold maxLen; omega) (Nat.le_refl _) ?_; intro w1 hown hgrow)
 have he1:Ext w w1:=(Ext.refl w).grown hgrow (fun k hk=>by cases hk);obtain ⟨w2,hrun,hown2,hgrow2⟩:=zc2 (P:=Try.prog) w1 26 3 74 2 zfr hsz w.heap.size w.heap.size xs.length _ (zat xs) _ hown (Row.ext ⟨hlen,ao,cap,rfl,h1,h2,h0,h3⟩ he1) (zbp xs);have he2:Ext w w2:=he1.grown hgrow2 (fun k hk=>by cases hk; exact Nat.le_refl _);rw [hrun];clear hrun hown hgrow hgrow2 he1 h3;go_wp2
 go_ret
 exact ⟨_,rfl,he2,hown2⟩

theorem zmv (v:Value) (xs:List An) (w:World) (hv:zaq 4 ziR w v xs) (hr:xs.length * 32<=140737488355328) :
  zba Try.prog 65 #[v] w fun r w'=>w'.ownsRow w.heap.size 96 4 r xs.length (zbT xs):=by
 unfold zba;obtain ⟨i0,hi,hz0,hz1,hz2⟩:=info_parts Try.infoAnswer;have hsz:(Try.prog.info? 96).map (·.size)=some 4:=by rw [hi]; simp [hz1]
 have hrow:Row w 4 v xs.length (zbT xs):=(zbz (f:=fun (x:An)=>[I x.client,I x.token,I x.reply.err,I x.reply.n]) (fun _=>rfl)).1 hv;clear hv;obtain ⟨hlen,ao,cap,rfl,h1,h2,h0,h3⟩:=hrow;unfold maxLen at h2;go_enter Try.func65,Try.ntmps65
 go_wp2_with (at_make; refine wpList_make_full _ rfl _ _ 27 rfl w.heap.size 96 i0 (.agg #[.int .i64 0,.int .i64 0,.int .i64 0,.int .i64 0]) 4 zkP hi hz0 hz1 .i64 .i64 _ _ xs.length rfl rfl rfl rfl (by rw [hz2]; omega) (by unfold maxLen; omega) (Nat.le_refl _) ?_; intro w1 hown hgrow)
 have he1:Ext w w1:=(Ext.refl w).grown hgrow (fun k hk=>by cases hk);obtain ⟨w2,hrun,hown2,hgrow2⟩:=zc2 (P:=Try.prog) w1 27 3 96 4 zkP hsz w.heap.size w.heap.size xs.length _ (zbT xs) _ hown (Row.ext ⟨hlen,ao,cap,rfl,h1,h2,h0,h3⟩ he1) (zdl xs);have he2:Ext w w2:=he1.grown hgrow2 (fun k hk=>by cases hk; exact Nat.le_refl _);rw [hrun];clear hrun hown hgrow hgrow2 he1 h3;go_wp2
 go_ret
 exact ⟨_,rfl,he2,hown2⟩

theorem zmq (v:Value) (xs:List Rq) (w:World) (hv:zaq 6 zes w v xs) (hr:xs.length * 48<=140737488355328) :
  zba Try.prog 66 #[v] w fun r w'=>w'.ownsRow w.heap.size 35 6 r xs.length (zaN xs):=by
 unfold zba;obtain ⟨i0,hi,hz0,hz1,hz2⟩:=info_parts Try.infoRequest;have hsz:(Try.prog.info? 35).map (·.size)=some 6:=by rw [hi]; simp [hz1]
 have hrow:Row w 6 v xs.length (zaN xs):=zbI.1 hv;clear hv;obtain ⟨hlen,ao,cap,rfl,h1,h2,h0,h3⟩:=hrow;unfold maxLen at h2;go_enter Try.func66,Try.ntmps66
 go_wp2_with (at_make; refine wpList_make_full _ rfl _ _ 28 rfl w.heap.size 35 i0 (.agg #[.int .i64 0,.int .i64 0,.int .i64 0,.int .i64 0,.int .i64 0,.int .i64 0]) 6 zgO hi hz0 hz1 .i64 .i64 _ _ xs.length rfl rfl rfl rfl (by rw [hz2]; omega) (by unfold maxLen; omega) (Nat.le_refl _) ?_; intro w1 hown hgrow)
 have he1:Ext w w1:=(Ext.refl w).grown hgrow (fun k hk=>by cases hk);obtain ⟨w2,hrun,hown2,hgrow2⟩:=zc2 (P:=Try.prog) w1 28 3 35 6 zgO hsz w.heap.size w.heap.size xs.length _ (zaN xs) _ hown (Row.ext ⟨hlen,ao,cap,rfl,h1,h2,h0,h3⟩ he1) (zcT xs);have he2:Ext w w2:=he1.grown hgrow2 (fun k hk=>by cases hk; exact Nat.le_refl _);rw [hrun];clear hrun hown hgrow hgrow2 he1 h3;go_wp2
 go_ret
 exact ⟨_,rfl,he2,hown2⟩

structure OwnSt (base:Nat) (w:World) (c u a p:Value) (s:St):Prop where
 cells:w.ownsRow base 3 1 c s.cells.length (s.cells.map I)
 undo:w.ownsRow base 74 2 u s.undo.length (zat s.undo)
 answers:w.ownsRow base 96 4 a s.answers.length (zbT s.answers)
 past:w.ownsRow base 35 6 p s.past.length (zaN s.past)
theorem OwnSt.rd {base:Nat} {w:World} {c u a p:Value} {s:St} (h:OwnSt base w c u a p s):Rd (fun k=>base<=k) (fun w=>zcm w [c,u,a,p] s) w :=
 zcW (zfj h.cells) (zgw h.undo) (zfp h.answers) (zg3 h.past)
theorem OwnSt.ext {base:Nat} {w w':World} {c u a p:Value} {s:St} (h:OwnSt base w c u a p s) (he:Ext w w'):OwnSt base w' c u a p s :=
 ⟨zaw h.cells he,zaw h.undo he,zaw h.answers he,zaw h.past he⟩
theorem zd0 {w:World} {base e size n b:Nat} {v:Value} {xs:List Value} (h:w.ownsRow base e size v n xs) (hb:b < base):v.ownBlock≠some b:=fun e=>by have:=(h.lt b e).1; omega
theorem OwnSt.set {base:Nat} {w:World} {c u a p:Value} {s:St} (h:OwnSt base w c u a p s) {b:Nat} (hb:b < base) (i:Nat) (x:Value):OwnSt base (w.setCell ⟨b,i,none⟩ x) c u a p s :=
 ⟨zbP h.cells (zd0 h.cells hb) i x,zbP h.undo (zd0 h.undo hb) i x,zbP h.answers (zd0 h.answers hb) i x,zbP h.past (zd0 h.past hb) i x⟩
theorem OwnSt.low {b1 b2:Nat} {w:World} {c u a p:Value} {s:St} (h:OwnSt b1 w c u a p s) (hle:b2<=b1):OwnSt b2 w c u a p s:=⟨zby h.cells hle,zby h.undo hle,zby h.answers hle,zby h.past hle⟩
theorem zcj {w:World} {base e size n:Nat} {v:Value} {xs:List Value} (h:w.ownsRow base e size v n xs):∃ ao cap,v=.slice ao n cap:=zam (Row.of_owns h)

def zk4 (s:St):Prop:=s.cells.length * 8<=100000000000000/\s.undo.length * 16<=100000000000000/\s.answers.length * 32<=100000000000000/\s.past.length * 48<=100000000000000

theorem zno (c u a p:Value) (s:St) (w:World) (h:zcm w [c,u,a,p] s) (hs:zk4 s) :
  zba Try.prog 46 #[.agg #[c,u,a,p]] w fun r w'=>∃ c' u' a' p',r=.agg #[c',u',a',p']/\OwnSt (w.heap.size+2) w' c' u' a' p' s:=by
 unfold zba;obtain ⟨h1,h2,h3,h4⟩:=zdB.1 h;clear h;have HS:=zhd hs;clear hs;unfold zk4 at HS;obtain ⟨ca,cc,rfl⟩:=zam h1;obtain ⟨ua,uc,rfl⟩:=zam h2;obtain ⟨aa,ac,rfl⟩:=zac h3;obtain ⟨pa,pc,rfl⟩:=zac h4;generalize hc:Value.slice ca s.cells.length cc=c at *;generalize hu:Value.slice ua s.undo.length uc=u at *;generalize ha:Value.slice aa s.answers.length ac=a at *;generalize hp:Value.slice pa s.past.length pc=p at *;clear hc hu ha hp;have e0:Ext w ((w.alloc (.cells #[c,u,a,p] 30)).alloc (.cells zT4 30)):=((Ext.refl w).alloc _).alloc _;have HB:=zhd (fun wx (h:Ext ((w.alloc (.cells #[c,u,a,p] 30)).alloc (.cells zT4 30)) wx)=>And.intro (zcX h) (zci h));have hsz:((w.alloc (.cells #[c,u,a,p] 30)).alloc (.cells zT4 30)).heap.size=w.heap.size+2:=by simp
 have HSZ:=zhd hsz;clear hsz;go_enter Try.func46,Try.ntmps46
 go_wp2_with fail
 generalize hw0:(w.alloc (.cells #[c,u,a,p] 30)).alloc (.cells zT4 30)=w0 at *;clear hw0;obtain ⟨b0,-⟩:=HB.o w0 (Ext.refl _);obtain ⟨x0,x1,x2,x3,-⟩:=zdo b0;clear b0;refine zau 12 [none,none,some (.inr (fun v wx=>wx.ownsRow w0.heap.size 3 1 v s.cells.length (s.cells.map I))),none,none,some (.inr (fun v wx=>wx.ownsRow w0.heap.size 74 2 v s.undo.length (zat s.undo))),none,none,some (.inr (fun v wx=>wx.ownsRow w0.heap.size 96 4 v s.answers.length (zbT s.answers))),none,none,some (.inr (fun v wx=>wx.ownsRow w0.heap.size 35 6 v s.past.length (zaN s.past)))] (by kernel_rfl) (by kernel_rfl) ?_ ?_
 ·exact ⟨trivial,trivial,zbA _ _ _ _ _,trivial,trivial,zbA _ _ _ _ _,trivial,trivial,zbA _ _ _ _ _,trivial,trivial,zbA _ _ _ _ _,trivial⟩
 (refine zaj (fun K hK=>?_); go_simp; first | refine hK _ ?_ | refine ⟨(fun h=>by cases h),hK _ ?_⟩; clear hK K)
 refine zax (c) rfl (fun w' hw'=>by have q0:=hw'.cell x0; go_simp) ?_;refine zae fun K h=>?_; go_simp; refine h _ ?_; clear h K;refine za0 _ rfl (fun w' hw' hk=>?_) (fun v5=>?_)
 ·have hw2:=e0.trans hw';have hle:=hw'.size;clear hk;unfold zaI;go_simp
  exact ⟨Ext.refl _,(zmE c s.cells w' (h1.ext hw2) (by have:=HS.o.1; omega)).mono fun _ _ _ h=>zby h hle⟩
 refine zae fun K h=>?_; go_simp; refine h _ ?_; clear h K;(refine zaj (fun K hK=>?_); go_simp; first | refine hK _ ?_ | refine ⟨(fun h=>by cases h),hK _ ?_⟩; clear hK K)
 refine zax (u) rfl (fun w' hw'=>by have q0:=hw'.cell x1; go_simp) ?_;refine zae fun K h=>?_; go_simp; refine h _ ?_; clear h K;refine za0 _ rfl (fun w' hw' hk=>?_) (fun v8=>?_)
 ·have hw2:=e0.trans hw';have hle:=hw'.size;clear hk;unfold zaI;go_simp
  exact ⟨Ext.refl _,(zkK u s.undo w' (h2.ext hw2) (by have:=HS.o.2.1; omega)).mono fun _ _ _ h=>zby h hle⟩
 refine zae fun K h=>?_; go_simp; refine h _ ?_; clear h K;(refine zaj (fun K hK=>?_); go_simp; first | refine hK _ ?_ | refine ⟨(fun h=>by cases h),hK _ ?_⟩; clear hK K)
 refine zax (a) rfl (fun w' hw'=>by have q0:=hw'.cell x2; go_simp) ?_;refine zae fun K h=>?_; go_simp; refine h _ ?_; clear h K;refine za0 _ rfl (fun w' hw' hk=>?_) (fun v11=>?_)
 ·have hw2:=e0.trans hw';have hle:=hw'.size;clear hk;unfold zaI;go_simp
  exact ⟨Ext.refl _,(zmv a s.answers w' (h3.ext zmj hw2) (by have:=HS.o.2.2.1; omega)).mono fun _ _ _ h=>zby h hle⟩
 refine zae fun K h=>?_; go_simp; refine h _ ?_; clear h K;(refine zaj (fun K hK=>?_); go_simp; first | refine hK _ ?_ | refine ⟨(fun h=>by cases h),hK _ ?_⟩; clear hK K)
 refine zax (p) rfl (fun w' hw'=>by have q0:=hw'.cell x3; go_simp) ?_;refine zae fun K h=>?_; go_simp; refine h _ ?_; clear h K;refine za0 _ rfl (fun w' hw' hk=>?_) (fun v14=>?_)
 ·have hw2:=e0.trans hw';have hle:=hw'.size;clear hk;unfold zaI;go_simp
  exact ⟨Ext.refl _,(zmq p s.past w' (h4.ext zc1 hw2) (by have:=HS.o.2.2.2; omega)).mono fun _ _ _ h=>zby h hle⟩
 refine zae fun K h=>?_; go_simp; refine h _ ?_; clear h K;refine zaL ?_;intro w1 e1 hX;have o0:w1.ownsRow w0.heap.size 3 1 v5 s.cells.length (s.cells.map I):=hX 5;have o1:w1.ownsRow w0.heap.size 74 2 v8 s.undo.length (zat s.undo):=hX 8;have o2:w1.ownsRow w0.heap.size 96 4 v11 s.answers.length (zbT s.answers):=hX 11;have o3:w1.ownsRow w0.heap.size 35 6 v14 s.past.length (zaN s.past):=hX 14;clear hX x0 x1 x2 x3;have ho:OwnSt w0.heap.size w1 v5 v8 v11 v14 s:=⟨o0,o1,o2,o3⟩;obtain ⟨ka,kc,hk0⟩:=zcj o0;obtain ⟨la,lc,hk1⟩:=zcj o1;obtain ⟨ma,mc,hk2⟩:=zcj o2;obtain ⟨na,nc,hk3⟩:=zcj o3;subst hk0 hk1 hk2 hk3;clear o0 o1 o2 o3;have HO:=zhd ho;clear ho;obtain ⟨-,b1⟩:=HB.o w1 e1;obtain ⟨y0,y1,y2,y3,f0,f1,f2,f3⟩:=zdo b1;go_wp2_with fail
 clear y0 y1 y2 y3 f0 f1 f2 f3;have b2:=set4 b1 (.slice ka s.cells.length kc) (.slice la s.undo.length lc) (.slice ma s.answers.length mc) (.slice na s.past.length nc);obtain ⟨q0,q1,q2,q3,-⟩:=zdo b2;have m2:=zc5 (e0.trans e1) (b:=w.heap.size+1) (by omega) (.slice ka s.cells.length kc) (.slice la s.undo.length lc) (.slice ma s.answers.length mc) (.slice na s.past.length nc);have hlt:w.heap.size+1 < w0.heap.size:=by rw [HSZ.o]; omega
 refine bodyPost_ret (by simp [results,Try.results46,go_sem,q0,q1,q2,q3]; rfl) rfl ?_;exact ⟨_,rfl,m2,_,_,_,_,rfl,((((HO.o.set hlt _ _).set hlt _ _).set hlt _ _).set hlt _ _).low (by rw [HSZ.o]; exact Nat.le_refl _)⟩

open Go.RowKit Go.Mk

theorem Try.infoBs:(Try.prog.info? 79).map (fun i=>(i.zero,i.size,i.bytes))=some (some (.slice none 0 0),1,24):=by kernel_rfl

theorem zdj {w:World} {base e size n:Nat} {v:Value} {xs:List Value} (h:w.ownsRow base e size v n xs):∃ ao cap,v=.slice ao n cap:=zam (Row.of_owns h)

theorem zfx (gen:Int) (bl:List (List UInt8)) (busy:Bool) (nc nt nk na no nn:Int) (pl:List (Int×Int)) (se sn:Int) (box plan bv:Value) (b:List UInt8) (w:World) (A:Nat->Prop) (hb:Rd A (fun w=>zaq 1 zcV w box bl) w) (hp:Rd A (fun w=>zan w plan pl) w) (hv:Rd A (fun w=>zbk w bv b) w) (hr:bl.length<=1000) :
  zaU Try.prog 34 #[.agg #[I gen,box,.bool busy,I nc,I nt,I nk,I na,I no,I nn,plan,I se,I sn],bv] w A (fun r w'=>zhc zhD (zcD ⟨gen,bl,busy,⟨nc,nt,⟨nk,na,no,nn⟩⟩,pl,⟨se,sn⟩⟩ b).1 (zcD ⟨gen,bl,busy,⟨nc,nt,⟨nk,na,no,nn⟩⟩,pl,⟨se,sn⟩⟩ b).2 r w'):=by
 unfold zaU;obtain ⟨ba,bc,rfl⟩:=zac hb.o;obtain ⟨pa,pc,rfl⟩:=zam hp.o;obtain ⟨va,vc,rfl⟩:=zam hv.o;have HB:=zhd hb;have HP:=zhd hp;have HV:=zhd hv;clear hb hp hv;have e0:Ext w ((w.alloc (.cells #[I gen,(.slice ba bl.length bc),.bool busy,I nc,I nt,I nk,I na,I no,I nn,(.slice pa pl.length pc),I se,I sn] 40)).alloc (.cells zS 40)):=((Ext.refl w).alloc _).alloc _;by_cases h3:3<=bl.length
 case pos =>
  have hX:zcD ⟨gen,bl,busy,⟨nc,nt,⟨nk,na,no,nn⟩⟩,pl,⟨se,sn⟩⟩ b=(⟨gen,bl,busy,⟨nc,nt,⟨nk,na,no,nn⟩⟩,pl,⟨se,sn⟩⟩,9):=if_pos h3;rw [hX];have hl1:(3:Int)<=(bl.length:Int):=by omega
  have hl2:¬ ((bl.length:Int) < 3):=by omega
  clear hX;go_enter Try.func34,Try.ntmps34
  go_wp2
  refine bodyPost_ret (by simp [results,Try.results34,go_sem]; rfl) rfl ?_;exact ⟨_,rfl,((Ext.refl w).alloc _).alloc _,((zbO (zeR (v:=⟨gen,bl,busy,⟨nc,nt,⟨nk,na,no,nn⟩⟩,pl,⟨se,sn⟩⟩) HB.o HP.o)).ext (((Ext.refl w).alloc _).alloc _)).widen (fun _ _ h=>.inl h)⟩
 have hX:zcD ⟨gen,bl,busy,⟨nc,nt,⟨nk,na,no,nn⟩⟩,pl,⟨se,sn⟩⟩ b=(⟨gen,bl++[b],busy,⟨nc,nt,⟨nk,na,no,nn⟩⟩,pl,⟨se,sn⟩⟩,0):=if_neg h3;rw [hX];clear hX;have hl1:¬ ((3:Int)<=(bl.length:Int)):=by omega
 have hl2:(bl.length:Int) < 3:=by omega
 have HR:=zhd hr;clear hr h3;obtain ⟨i0,hi,hz0,hz1,hz2⟩:=info_parts Try.infoBs;have HI:=zhd hi;clear hi;obtain ⟨css,hcs,hrow⟩:=zjq (by decide) HB.o;have HCS:=zhd hcs;have HROW:=zhd hrow;clear hcs hrow;have HBL:=zhd (fun wx (h:Ext ((w.alloc (.cells #[I gen,(.slice ba bl.length bc),.bool busy,I nc,I nt,I nk,I na,I no,I nn,(.slice pa pl.length pc),I se,I sn] 40)).alloc (.cells zS 40)) wx)=>And.intro (zcX h) (zci h));have hsz:((w.alloc (.cells #[I gen,(.slice ba bl.length bc),.bool busy,I nc,I nt,I nk,I na,I no,I nn,(.slice pa pl.length pc),I se,I sn] 40)).alloc (.cells zS 40)).heap.size=w.heap.size+2:=by simp
 have HSZ:=zhd hsz;clear hsz;obtain ⟨B,hB⟩:=zei A w.heap.size 2;have HK:=zhd hB;clear hB;have HONES:=zhd (HCS.o.o.ones znU);go_enter Try.func34,Try.ntmps34
 go_wp2_with (at_builtin; refine zbl ?_)
 unfold Hid;generalize hw0:(w.alloc (.cells #[I gen,(.slice ba bl.length bc),.bool busy,I nc,I nt,I nk,I na,I no,I nn,(.slice pa pl.length pc),I se,I sn] 40)).alloc (.cells zS 40)=w0 at *;clear hw0;have hz:=HSZ.o;have hem:=World.ownsRow_lit (base:=w0.heap.size) (e:=79) (size:=1) w0 #[] 0 (Nat.le_refl _) (by decide) rfl;rw [hz] at hem;refine zav _ rfl (.tmp 11) (.tmp 13) 31 rfl (w.heap.size+2) 79 i0 (.slice none 0 0) 1 24 znI HI.o hz0 hz1 hz2 rfl (by decide) (.slice (some ⟨w.heap.size+2,0,none⟩) 0 0) 0 [] rfl hem _ rfl bl.length css.flatten (HROW.o.ext (e0.alloc _)) HONES.o (by have:=HR.o; omega) (by decide) (by simp; omega) ?_;intro v1 w1 ho1 hg1;simp only [Nat.zero_add,List.nil_append] at ho1;have e1:Ext w0 w1:=((Ext.refl w0).alloc (.cells #[] 79)).grown hg1 (fun k hk=>by (have h5:w.heap.size+2=k:=by simpa [Value.ownBlock] using hk); omega);clear hem hg1;go_wp2_with (at_builtin; refine zbl ?_)
 unfold Hid;have hone:Row (w1.alloc (.cells #[.slice va b.length vc] 79)) 1 (.slice (some ⟨w1.heap.size,0,none⟩) 1 1) 1 [.slice va b.length vc]:=Row.of_owns (World.ownsRow_lit (base:=0) (e:=79) (size:=1) w1 #[.slice va b.length vc] 1 (Nat.zero_le _) (by decide) rfl);have hs1:=e1.size;refine zav _ rfl (.tmp 14) (.tmp 16) 31 rfl (w.heap.size+2) 79 i0 (.slice none 0 0) 1 24 znI HI.o hz0 hz1 hz2 rfl (by decide) v1 bl.length css.flatten rfl (zaw ho1 ((Ext.refl w1).alloc _)) _ rfl 1 _ hone (fun u hu=>by simp at hu; rw [hu]; rfl) (by have:=HR.o; omega) (by decide) (by simp; omega) ?_;intro v2 w2 ho2 hg2;have e2:Ext w0 w2:=(e1.alloc (.cells #[.slice va b.length vc] 79)).grown hg2 (fun k hk=>by have:=(ho1.lt k hk).1; omega);clear hone hg2 ho1 hs1;have ho2:w2.ownsRow (w.heap.size+2) 79 1 v2 (bl.length+1) (css++[[Value.slice va b.length vc]]).flatten:=by simpa using ho2
 have k1:Rd B (fun w=>zaq 1 zcV w v2 (bl++[b])) w2:=by
  refine zep (fun k h _=>HK.o.2.1 k h) (Rd.snoc ((HCS.o.widen HK.o.1).ext (e0.trans e2)) ?_ rfl) ho2 (by decide);exact ((HV.o.widen HK.o.1).ext (e0.trans e2)).imp fun w h=>⟨_,rfl,h⟩
 obtain ⟨qa,qc,hqs⟩:=zdj ho2;subst hqs;have K1:=zhd k1;clear ho2 k1;obtain ⟨b0,b1⟩:=HBL.o w2 e2;have x0:=zc7 b0;have f0:=zeo b0;have y0:=zc7 b1;have g0:=zeo b1;go_wp2
 clear x0 f0 y0 g0;have n0:¬ B w.heap.size:=HK.o.2.2.1 _ (Nat.le_refl _) (by omega);have n1:¬ B (w.heap.size+1):=HK.o.2.2.1 _ (by omega) (by omega);have b2:=zkZ (zcZ (i:=1) (x:=(.slice qa (bl.length+1) qc)) b1 (Nat.succ_ne_self w.heap.size)) [I gen,(.slice qa (bl.length+1) qc),.bool busy,I nc,I nt,I nk,I na,I no,I nn,(.slice pa pl.length pc),I se,I sn] rfl;have ew:=Ext.put (b:=w.heap.size+1) (by omega) [I gen,(.slice qa (bl.length+1) qc),.bool busy,I nc,I nt,I nk,I na,I no,I nn,(.slice pa pl.length pc),I se,I sn] ((e0.trans e2).setCell (p:=⟨w.heap.size,1,none⟩) (Nat.le_refl _) (.slice qa (bl.length+1) qc)) 0;have r1:=Rd.put n1 [I gen,(.slice qa (bl.length+1) qc),.bool busy,I nc,I nt,I nk,I na,I no,I nn,(.slice pa pl.length pc),I se,I sn] (K1.o.set n0 1 (.slice qa (bl.length+1) qc)) 0;have rHP:=Rd.put n1 [I gen,(.slice qa (bl.length+1) qc),.bool busy,I nc,I nt,I nk,I na,I no,I nn,(.slice pa pl.length pc),I se,I sn] (((HP.o.widen HK.o.1).ext (e0.trans e2)).set n0 1 (.slice qa (bl.length+1) qc)) 0;generalize hwz:((((((((((((w2.setCell ⟨w.heap.size,1,none⟩ (.slice qa (bl.length+1) qc)).setCell ⟨w.heap.size+1,0,none⟩ (I gen)).setCell ⟨w.heap.size+1,1,none⟩ (.slice qa (bl.length+1) qc)).setCell ⟨w.heap.size+1,2,none⟩ (.bool busy)).setCell ⟨w.heap.size+1,3,none⟩ (I nc)).setCell ⟨w.heap.size+1,4,none⟩ (I nt)).setCell ⟨w.heap.size+1,5,none⟩ (I nk)).setCell ⟨w.heap.size+1,6,none⟩ (I na)).setCell ⟨w.heap.size+1,7,none⟩ (I no)).setCell ⟨w.heap.size+1,8,none⟩ (I nn)).setCell ⟨w.heap.size+1,9,none⟩ (.slice pa pl.length pc)).setCell ⟨w.heap.size+1,10,none⟩ (I se)).setCell ⟨w.heap.size+1,11,none⟩ (I sn)=wz;replace hwz:zey (w2.setCell ⟨w.heap.size,1,none⟩ (.slice qa (bl.length+1) qc)) (w.heap.size+1) 0 [I gen,(.slice qa (bl.length+1) qc),.bool busy,I nc,I nt,I nk,I na,I no,I nn,(.slice pa pl.length pc),I se,I sn]=wz:=hwz;rw [hwz] at b2 ew r1 rHP;have q0:=zc7 b2;clear hwz;refine bodyPost_ret (by simp [results,Try.results34,go_sem,q0]; rfl) rfl ?_;exact ⟨_,rfl,ew,Rd.widen (A:=B) (zbO (zeR (v:=⟨gen,bl++[b],busy,⟨nc,nt,⟨nk,na,no,nn⟩⟩,pl,⟨se,sn⟩⟩) r1 rHP)) (fun k _ h=>HK.o.2.2.2 k h)⟩

theorem zfv (cl:List Cl) (at_:Int) (sent:Bool) (gen:Int) (bl:List (List UInt8)) (gl:List Rp) (calls box got bv:Value) (b:List UInt8) (w:World) (A:Nat->Prop) (hc:Rd A (fun w=>zaq 4 zfa w calls cl) w) (hb:Rd A (fun w=>zaq 1 zcV w box bl) w) (hg:Rd A (fun w=>zaq 2 zdA w got gl) w) (hv:Rd A (fun w=>zbk w bv b) w) (hr:bl.length<=1000) :
  zaU Try.prog 37 #[.agg #[calls,I at_,.bool sent,I gen,box,got],bv] w A (fun r w'=>Agg zdw (zdf ⟨cl,at_,sent,gen,bl,gl⟩ b) r w'):=by
 unfold zaU;obtain ⟨ba,bc,rfl⟩:=zac hb.o;obtain ⟨ca,cc,rfl⟩:=zac hc.o;obtain ⟨ga,gc,rfl⟩:=zac hg.o;obtain ⟨va,vc,rfl⟩:=zam hv.o;have HC:=zhd hc;have HB:=zhd hb;have HG:=zhd hg;have HV:=zhd hv;clear hc hb hg hv;have e0:Ext w ((w.alloc (.cells #[(.slice ca cl.length cc),I at_,.bool sent,I gen,(.slice ba bl.length bc),(.slice ga gl.length gc)] 61)).alloc (.cells zC 61)):=((Ext.refl w).alloc _).alloc _;by_cases h3:3<=bl.length
 case pos =>
  have hX:zdf ⟨cl,at_,sent,gen,bl,gl⟩ b=⟨cl,at_,sent,gen,bl,gl⟩:=if_neg (by show ¬ bl.length < 3; omega);rw [hX];have hl1:(3:Int)<=(bl.length:Int):=by omega
  have hl2:¬ ((bl.length:Int) < 3):=by omega
  clear hX;go_enter Try.func37,Try.ntmps37
  go_wp2
  refine bodyPost_ret (by simp [results,Try.results37,go_sem]; rfl) rfl ?_;exact ⟨_,rfl,((Ext.refl w).alloc _).alloc _,((zdm (zc8 (c:=⟨cl,at_,sent,gen,bl,gl⟩) HC.o HB.o HG.o)).ext (((Ext.refl w).alloc _).alloc _)).widen (fun _ _ h=>.inl h)⟩
 have hX:zdf ⟨cl,at_,sent,gen,bl,gl⟩ b=⟨cl,at_,sent,gen,bl++[b],gl⟩:=if_pos (by show bl.length < 3; omega);rw [hX];clear hX;have hl1:¬ ((3:Int)<=(bl.length:Int)):=by omega
 have hl2:(bl.length:Int) < 3:=by omega
 have HR:=zhd hr;clear hr h3;obtain ⟨i0,hi,hz0,hz1,hz2⟩:=info_parts Try.infoBs;have HI:=zhd hi;clear hi;obtain ⟨css,hcs,hrow⟩:=zjq (by decide) HB.o;have HCS:=zhd hcs;have HROW:=zhd hrow;clear hcs hrow;have HBL:=zhd (fun wx (h:Ext ((w.alloc (.cells #[(.slice ca cl.length cc),I at_,.bool sent,I gen,(.slice ba bl.length bc),(.slice ga gl.length gc)] 61)).alloc (.cells zC 61)) wx)=>And.intro (zcX h) (zci h));have hsz:((w.alloc (.cells #[(.slice ca cl.length cc),I at_,.bool sent,I gen,(.slice ba bl.length bc),(.slice ga gl.length gc)] 61)).alloc (.cells zC 61)).heap.size=w.heap.size+2:=by simp
 have HSZ:=zhd hsz;clear hsz;obtain ⟨B,hB⟩:=zei A w.heap.size 2;have HK:=zhd hB;clear hB;have HONES:=zhd (HCS.o.o.ones znU);go_enter Try.func37,Try.ntmps37
 go_wp2_with (at_builtin; refine zbl ?_)
 unfold Hid;generalize hw0:(w.alloc (.cells #[(.slice ca cl.length cc),I at_,.bool sent,I gen,(.slice ba bl.length bc),(.slice ga gl.length gc)] 61)).alloc (.cells zC 61)=w0 at *;clear hw0;have hz:=HSZ.o;have hem:=World.ownsRow_lit (base:=w0.heap.size) (e:=79) (size:=1) w0 #[] 0 (Nat.le_refl _) (by decide) rfl;rw [hz] at hem;refine zav _ rfl (.tmp 9) (.tmp 11) 31 rfl (w.heap.size+2) 79 i0 (.slice none 0 0) 1 24 znI HI.o hz0 hz1 hz2 rfl (by decide) (.slice (some ⟨w.heap.size+2,0,none⟩) 0 0) 0 [] rfl hem _ rfl bl.length css.flatten (HROW.o.ext (e0.alloc _)) HONES.o (by have:=HR.o; omega) (by decide) (by simp; omega) ?_;intro v1 w1 ho1 hg1;simp only [Nat.zero_add,List.nil_append] at ho1;have e1:Ext w0 w1:=((Ext.refl w0).alloc (.cells #[] 79)).grown hg1 (fun k hk=>by (have h5:w.heap.size+2=k:=by simpa [Value.ownBlock] using hk); omega);clear hem hg1;go_wp2_with (at_builtin; refine zbl ?_)
 unfold Hid;have hone:Row (w1.alloc (.cells #[.slice va b.length vc] 79)) 1 (.slice (some ⟨w1.heap.size,0,none⟩) 1 1) 1 [.slice va b.length vc]:=Row.of_owns (World.ownsRow_lit (base:=0) (e:=79) (size:=1) w1 #[.slice va b.length vc] 1 (Nat.zero_le _) (by decide) rfl);have hs1:=e1.size;refine zav _ rfl (.tmp 12) (.tmp 14) 31 rfl (w.heap.size+2) 79 i0 (.slice none 0 0) 1 24 znI HI.o hz0 hz1 hz2 rfl (by decide) v1 bl.length css.flatten rfl (zaw ho1 ((Ext.refl w1).alloc _)) _ rfl 1 _ hone (fun u hu=>by simp at hu; rw [hu]; rfl) (by have:=HR.o; omega) (by decide) (by simp; omega) ?_;intro v2 w2 ho2 hg2;have e2:Ext w0 w2:=(e1.alloc (.cells #[.slice va b.length vc] 79)).grown hg2 (fun k hk=>by have:=(ho1.lt k hk).1; omega);clear hone hg2 ho1 hs1;have ho2:w2.ownsRow (w.heap.size+2) 79 1 v2 (bl.length+1) (css++[[Value.slice va b.length vc]]).flatten:=by simpa using ho2
 have k1:Rd B (fun w=>zaq 1 zcV w v2 (bl++[b])) w2:=by
  refine zep (fun k h _=>HK.o.2.1 k h) (Rd.snoc ((HCS.o.widen HK.o.1).ext (e0.trans e2)) ?_ rfl) ho2 (by decide);exact ((HV.o.widen HK.o.1).ext (e0.trans e2)).imp fun w h=>⟨_,rfl,h⟩
 obtain ⟨qa,qc,hqs⟩:=zdj ho2;subst hqs;have K1:=zhd k1;clear ho2 k1;obtain ⟨b0,b1⟩:=HBL.o w2 e2;have x0:=zc7 b0;have f0:=zeo b0;have y0:=zc7 b1;have g0:=zeo b1;go_wp2
 clear x0 f0 y0 g0;have n0:¬ B w.heap.size:=HK.o.2.2.1 _ (Nat.le_refl _) (by omega);have n1:¬ B (w.heap.size+1):=HK.o.2.2.1 _ (by omega) (by omega);have b2:=zkZ (zcZ (i:=4) (x:=(.slice qa (bl.length+1) qc)) b1 (Nat.succ_ne_self w.heap.size)) [(.slice ca cl.length cc),I at_,.bool sent,I gen,(.slice qa (bl.length+1) qc),(.slice ga gl.length gc)] rfl;have ew:=Ext.put (b:=w.heap.size+1) (by omega) [(.slice ca cl.length cc),I at_,.bool sent,I gen,(.slice qa (bl.length+1) qc),(.slice ga gl.length gc)] ((e0.trans e2).setCell (p:=⟨w.heap.size,4,none⟩) (Nat.le_refl _) (.slice qa (bl.length+1) qc)) 0;have r1:=Rd.put n1 [(.slice ca cl.length cc),I at_,.bool sent,I gen,(.slice qa (bl.length+1) qc),(.slice ga gl.length gc)] (K1.o.set n0 4 (.slice qa (bl.length+1) qc)) 0;have rHC:=Rd.put n1 [(.slice ca cl.length cc),I at_,.bool sent,I gen,(.slice qa (bl.length+1) qc),(.slice ga gl.length gc)] (((HC.o.widen HK.o.1).ext (e0.trans e2)).set n0 4 (.slice qa (bl.length+1) qc)) 0;have rHG:=Rd.put n1 [(.slice ca cl.length cc),I at_,.bool sent,I gen,(.slice qa (bl.length+1) qc),(.slice ga gl.length gc)] (((HG.o.widen HK.o.1).ext (e0.trans e2)).set n0 4 (.slice qa (bl.length+1) qc)) 0;generalize hwz:((((((w2.setCell ⟨w.heap.size,4,none⟩ (.slice qa (bl.length+1) qc)).setCell ⟨w.heap.size+1,0,none⟩ (.slice ca cl.length cc)).setCell ⟨w.heap.size+1,1,none⟩ (I at_)).setCell ⟨w.heap.size+1,2,none⟩ (.bool sent)).setCell ⟨w.heap.size+1,3,none⟩ (I gen)).setCell ⟨w.heap.size+1,4,none⟩ (.slice qa (bl.length+1) qc)).setCell ⟨w.heap.size+1,5,none⟩ (.slice ga gl.length gc)=wz;replace hwz:zey (w2.setCell ⟨w.heap.size,4,none⟩ (.slice qa (bl.length+1) qc)) (w.heap.size+1) 0 [(.slice ca cl.length cc),I at_,.bool sent,I gen,(.slice qa (bl.length+1) qc),(.slice ga gl.length gc)]=wz:=hwz;rw [hwz] at b2 ew r1 rHC rHG;have q0:=zc7 b2;clear hwz;refine bodyPost_ret (by simp [results,Try.results37,go_sem,q0]; rfl) rfl ?_;exact ⟨_,rfl,ew,Rd.widen (A:=B) (zdm (zc8 (c:=⟨cl,at_,sent,gen,bl++[b],gl⟩) rHC r1 rHG)) (fun k _ h=>HK.o.2.2.2 k h)⟩

open Go.RowKit Go.Mk

def zdT (base:Nat) (w:World) (u:Value) (bl:List (List UInt8)):Prop:=∃ evs:List Value,w.ownsRow base 79 1 u bl.length evs/\∀ (i:Nat) (b:List UInt8),bl[i]?=some b->∃ ev,evs[i]?=some ev/\w.ownsRow base 5 1 ev b.length (b.map U)

theorem zdO {base e size n:Nat} {v:Value} {cs:List Value} {w:World} {B:Nat->Prop} (h:w.ownsRow base e size v n cs) (hB:∀ g,v.ownBlock=some g->B g):Rd B (fun w=>Row w size v n cs) w:=fun w2 h2=>by
 refine Row.heap (Row.of_owns h) (fun j u b off hj ⟨m,cap,e⟩=>?_)
 rcases h.2 with ⟨rfl,_⟩ | ⟨g,cap',cur,rfl,hb,hg,_⟩
 ·cases e
 ·simp at e
  obtain ⟨⟨rfl,_⟩,_⟩:=e
  exact h2 g (hB g rfl) (Array.getElem?_eq_some_iff.1 hg).1
theorem zdT.rd {base:Nat} {w:World} {u:Value} {bl:List (List UInt8)} {B:Nat->Prop} (h:zdT base w u bl) (hB:∀ g,base<=g->(∀ cs t,w.heap[g]?=some (.cells cs t (0,0))->t=79∨t=5)->B g):Rd B (fun w=>zaq 1 zcV w u bl) w:=by
 obtain ⟨evs,h1,h2⟩:=h
 have hl:evs.length=bl.length:=by have:=h1.1; simpa using this
 have hin:∀ {e size n:Nat} {v:Value} {cs:List Value},w.ownsRow base e size v n cs->(e=79∨e=5)->∀ g,v.ownBlock=some g->B g:=fun {e size n v cs} ho he g hg=>by
  refine hB g (ho.lt g hg).1 (fun cs' t' hc=>?_)
  by_cases hne:e=t'
  ·rw [<- hne]; exact he
  ·exact absurd hg (zfb ho hc hne)
 have r1:=zdO h1 (hin h1 (.inl rfl))
 have r2:Rd B (fun w=>∀ (i:Nat) (b:List UInt8) (ev:Value),bl[i]?=some b->evs[i]?=some ev->zbk w ev b) w:=fun w2 hk i b ev hb hev=>by
  obtain ⟨ev',h3,h4⟩:=h2 i b hb
  rw [hev] at h3
  cases h3
  exact zdO h4 (hin h4 (.inr rfl)) w2 hk
 refine (r1.and r2).imp fun w' hw=>⟨evs.map (fun e=>[e]),⟨by simp [hl],fun i c x hc hx=>?_⟩,?_⟩
 ·rw [List.getElem?_map] at hc
  cases he:evs[i]? with
  | none=>rw [he] at hc; cases hc
  | some ev =>
   rw [he] at hc
   simp at hc
   subst hc
   exact ⟨rfl,ev,rfl,hw.2 i x ev hx he⟩
 ·have hf:∀ l:List Value,(l.map fun e=>[e]).flatten=l:=fun l=>by
   induction l with
   | nil=>rfl
   | cons a l ih=>rw [List.map_cons,List.flatten_cons,ih]; rfl
  rw [hf]
  exact hw.1
theorem zdT.ext {base:Nat} {w w':World} {u:Value} {bl:List (List UInt8)} (h:zdT base w u bl) (he:Ext w w'):zdT base w' u bl:=by
 obtain ⟨evs,h1,h2⟩:=h
 refine ⟨evs,zaw h1 he,fun i b hb=>?_⟩
 obtain ⟨ev,h3,h4⟩:=h2 i b hb
 exact ⟨ev,h3,zaw h4 he⟩
theorem zdT.low {base b2:Nat} {w:World} {u:Value} {bl:List (List UInt8)} (h:zdT base w u bl) (hle:b2<=base):zdT b2 w u bl:=by
 obtain ⟨evs,h1,h2⟩:=h
 refine ⟨evs,zby h1 hle,fun i b hb=>?_⟩
 obtain ⟨ev,h3,h4⟩:=h2 i b hb
 exact ⟨ev,h3,zby h4 hle⟩
theorem zdT.kept {base:Nat} {w w':World} {u:Value} {bl:List (List UInt8)} (h:zdT base w u bl) {b:Nat} (hg:w.grownBy w' (some b)) {cs:Array Value} {t:TypeId} (hb:w.heap[b]?=some (.cells cs t (0,0))) (hne:(79:Nat)≠t) (hne2:(5:Nat)≠t):zdT base w' u bl:=by
 obtain ⟨evs,h1,h2⟩:=h
 refine ⟨evs,h1.kept hg (.inr (zfb h1 hb hne)),fun i b hb'=>?_⟩
 obtain ⟨ev,h3,h4⟩:=h2 i b hb'
 exact ⟨ev,h3,h4.kept hg (.inr (zfb h4 hb hne2))⟩

end Go.Proofs.Ytdmipnnfoolelaf

/- Texts of the proof, merged: S7 N1 V1. -/
import Derived.Test.YtdmipnnfoolelafGreatKTA
import Derived.Test.YtdmipnnfoolelafGreatKTK
import Derived.Test.YtdmipnnfoolelafGreatKTD
import Derived.Test.YtdmipnnfoolelafGreatKTI
set_option maxHeartbeats 2000000
set_option maxRecDepth 100000

namespace Go.Proofs.YtdmipnnfoolelafGreat
open Go.RowKit Go.Mk

theorem zq4 (v:Value) (xs:List Int) (w:World) (hv:zby w v xs) (hr:xs.length * 8<=140737488355328) :
  zaT Tryz.prog 74 #[v] w fun r w'=>w'.ownsRow w.heap.size 3 1 r xs.length (xs.map I):=by
 unfold zaT;obtain ⟨i0,hi,hz0,hz1,hz2⟩:=info_parts Tryz.infoInt;have hsz:(Tryz.prog.info? 3).map (·.size)=some 1:=by rw [hi]; simp [hz1]
 have hrow:Row w 1 v xs.length (xs.map I):=hv;clear hv;obtain ⟨hlen,ao,cap,rfl,h1,h2,h0,h3⟩:=hrow;unfold maxLen at h2;go_enter Tryz.func74,Tryz.ntmps74
 go_wp2_with (at_make; refine wpList_make_full _ rfl _ _ 26 rfl w.heap.size 3 i0 (.int .i64 0) 1 zpg hi hz0 hz1 .i64 .i64 _ _ xs.length rfl rfl rfl rfl (by rw [hz2]; omega) (by unfold maxLen; omega) (Nat.le_refl _) ?_; intro w1 hown hgrow)
 have he1:Ext w w1:=(Ext.refl w).grown hgrow (fun k hk=>by cases hk);obtain ⟨w2,hrun,hown2,hgrow2⟩:=zb7 (P:=Tryz.prog) w1 26 3 3 1 zpg hsz w.heap.size w.heap.size xs.length _ (xs.map I) _ hown (Row.ext ⟨hlen,ao,cap,rfl,h1,h2,h0,h3⟩ he1) (zjv xs);have he2:Ext w w2:=he1.grown hgrow2 (fun k hk=>by cases hk; exact Nat.le_refl _);rw [hrun];clear hrun hown hgrow hgrow2 he1 h3;go_wp2
 go_ret
 exact ⟨_,rfl,he2,hown2⟩

theorem znZ (v:Value) (xs:List (Int×Int)) (w:World) (hv:zax w v xs) (hr:xs.length * 16<=140737488355328) :
  zaT Tryz.prog 75 #[v] w fun r w'=>w'.ownsRow w.heap.size 111 2 r xs.length (zaB xs):=by
 unfold zaT;obtain ⟨i0,hi,hz0,hz1,hz2⟩:=info_parts Tryz.infoWrite;have hsz:(Tryz.prog.info? 111).map (·.size)=some 2:=by rw [hi]; simp [hz1]
 have hrow:Row w 2 v xs.length (zaB xs):=hv;clear hv;obtain ⟨hlen,ao,cap,rfl,h1,h2,h0,h3⟩:=hrow;unfold maxLen at h2;go_enter Tryz.func75,Tryz.ntmps75
 go_wp2_with (at_make; refine wpList_make_full _ rfl _ _ 27 rfl w.heap.size 111 i0 (.agg #[.int .i64 0,.int .i64 0]) 2 zfG hi hz0 hz1 .i64 .i64 _ _ xs.length rfl rfl rfl rfl (by rw [hz2]; omega) (by unfold maxLen; omega) (Nat.le_refl _) ?_; intro w1 hown hgrow)
 have he1:Ext w w1:=(Ext.refl w).grown hgrow (fun k hk=>by cases hk);obtain ⟨w2,hrun,hown2,hgrow2⟩:=zb7 (P:=Tryz.prog) w1 27 3 111 2 zfG hsz w.heap.size w.heap.size xs.length _ (zaB xs) _ hown (Row.ext ⟨hlen,ao,cap,rfl,h1,h2,h0,h3⟩ he1) (zbK xs);have he2:Ext w w2:=he1.grown hgrow2 (fun k hk=>by cases hk; exact Nat.le_refl _);rw [hrun];clear hrun hown hgrow hgrow2 he1 h3;go_wp2
 go_ret
 exact ⟨_,rfl,he2,hown2⟩

theorem zqz (v:Value) (xs:List An) (w:World) (hv:zas 4 zhL w v xs) (hr:xs.length * 32<=140737488355328) :
  zaT Tryz.prog 76 #[v] w fun r w'=>w'.ownsRow w.heap.size 97 4 r xs.length (zbB xs):=by
 unfold zaT;obtain ⟨i0,hi,hz0,hz1,hz2⟩:=info_parts Tryz.infoAnswer;have hsz:(Tryz.prog.info? 97).map (·.size)=some 4:=by rw [hi]; simp [hz1]
 have hrow:Row w 4 v xs.length (zbB xs):=(zdx (f:=fun (x:An)=>[I x.client,I x.token,I x.reply.err,I x.reply.n]) (fun _=>rfl)).1 hv;clear hv;obtain ⟨hlen,ao,cap,rfl,h1,h2,h0,h3⟩:=hrow;unfold maxLen at h2;go_enter Tryz.func76,Tryz.ntmps76
 go_wp2_with (at_make; refine wpList_make_full _ rfl _ _ 28 rfl w.heap.size 97 i0 (.agg #[.int .i64 0,.int .i64 0,.int .i64 0,.int .i64 0]) 4 zna hi hz0 hz1 .i64 .i64 _ _ xs.length rfl rfl rfl rfl (by rw [hz2]; omega) (by unfold maxLen; omega) (Nat.le_refl _) ?_; intro w1 hown hgrow)
 have he1:Ext w w1:=(Ext.refl w).grown hgrow (fun k hk=>by cases hk);obtain ⟨w2,hrun,hown2,hgrow2⟩:=zb7 (P:=Tryz.prog) w1 28 3 97 4 zna hsz w.heap.size w.heap.size xs.length _ (zbB xs) _ hown (Row.ext ⟨hlen,ao,cap,rfl,h1,h2,h0,h3⟩ he1) (zdX xs);have he2:Ext w w2:=he1.grown hgrow2 (fun k hk=>by cases hk; exact Nat.le_refl _);rw [hrun];clear hrun hown hgrow hgrow2 he1 h3;go_wp2
 go_ret
 exact ⟨_,rfl,he2,hown2⟩

theorem zqJ (v:Value) (xs:List Rq) (w:World) (hv:zas 6 zhn w v xs) (hr:xs.length * 48<=140737488355328) :
  zaT Tryz.prog 77 #[v] w fun r w'=>w'.ownsRow w.heap.size 36 6 r xs.length (zbE xs):=by
 unfold zaT;obtain ⟨i0,hi,hz0,hz1,hz2⟩:=info_parts Tryz.infoRequest;have hsz:(Tryz.prog.info? 36).map (·.size)=some 6:=by rw [hi]; simp [hz1]
 have hrow:Row w 6 v xs.length (zbE xs):=zei.1 hv;clear hv;obtain ⟨hlen,ao,cap,rfl,h1,h2,h0,h3⟩:=hrow;unfold maxLen at h2;go_enter Tryz.func77,Tryz.ntmps77
 go_wp2_with (at_make; refine wpList_make_full _ rfl _ _ 29 rfl w.heap.size 36 i0 (.agg #[.int .i64 0,.int .i64 0,.int .i64 0,.int .i64 0,.int .i64 0,.int .i64 0]) 6 zn1 hi hz0 hz1 .i64 .i64 _ _ xs.length rfl rfl rfl rfl (by rw [hz2]; omega) (by unfold maxLen; omega) (Nat.le_refl _) ?_; intro w1 hown hgrow)
 have he1:Ext w w1:=(Ext.refl w).grown hgrow (fun k hk=>by cases hk);obtain ⟨w2,hrun,hown2,hgrow2⟩:=zb7 (P:=Tryz.prog) w1 29 3 36 6 zn1 hsz w.heap.size w.heap.size xs.length _ (zbE xs) _ hown (Row.ext ⟨hlen,ao,cap,rfl,h1,h2,h0,h3⟩ he1) (zel xs);have he2:Ext w w2:=he1.grown hgrow2 (fun k hk=>by cases hk; exact Nat.le_refl _);rw [hrun];clear hrun hown hgrow hgrow2 he1 h3;go_wp2
 go_ret
 exact ⟨_,rfl,he2,hown2⟩

structure OwnSt (base:Nat) (w:World) (c u a p:Value) (s:St):Prop where
 cells:w.ownsRow base 3 1 c s.cells.length (s.cells.map I)
 undo:w.ownsRow base 111 2 u s.undo.length (zaB s.undo)
 answers:w.ownsRow base 97 4 a s.answers.length (zbB s.answers)
 past:w.ownsRow base 36 6 p s.past.length (zbE s.past)
theorem OwnSt.rd {base:Nat} {w:World} {c u a p:Value} {s:St} (h:OwnSt base w c u a p s):Rd (fun k=>base<=k) (fun w=>zcn w [c,u,a,p] s) w :=
 zdJ (zeb h.cells) (zek h.undo) (zes h.answers) (zhR h.past)
theorem OwnSt.ext {base:Nat} {w w':World} {c u a p:Value} {s:St} (h:OwnSt base w c u a p s) (he:Ext w w'):OwnSt base w' c u a p s :=
 ⟨zam h.cells he,zam h.undo he,zam h.answers he,zam h.past he⟩
theorem zfd {w:World} {base e size n b:Nat} {v:Value} {xs:List Value} (h:w.ownsRow base e size v n xs) (hb:b < base):v.ownBlock≠some b:=fun e=>by have:=(h.lt b e).1; omega
theorem OwnSt.set {base:Nat} {w:World} {c u a p:Value} {s:St} (h:OwnSt base w c u a p s) {b:Nat} (hb:b < base) (i:Nat) (x:Value):OwnSt base (w.setCell ⟨b,i,none⟩ x) c u a p s :=
 ⟨zbs h.cells (zfd h.cells hb) i x,zbs h.undo (zfd h.undo hb) i x,zbs h.answers (zfd h.answers hb) i x,zbs h.past (zfd h.past hb) i x⟩
theorem OwnSt.low {b1 b2:Nat} {w:World} {c u a p:Value} {s:St} (h:OwnSt b1 w c u a p s) (hle:b2<=b1):OwnSt b2 w c u a p s:=⟨zbj h.cells hle,zbj h.undo hle,zbj h.answers hle,zbj h.past hle⟩
theorem za4 {w:World} {base e size n:Nat} {v:Value} {xs:List Value} (h:w.ownsRow base e size v n xs):∃ ao cap,v=.slice ao n cap:=zao (Row.of_owns h)

def zj3 (s:St):Prop:=s.cells.length * 8<=100000000000000/\s.undo.length * 16<=100000000000000/\s.answers.length * 32<=100000000000000/\s.past.length * 48<=100000000000000

theorem zig (c u a p:Value) (s:St) (w:World) (h:zcn w [c,u,a,p] s) (hs:zj3 s) :
  zaT Tryz.prog 44 #[.agg #[c,u,a,p]] w fun r w'=>∃ c' u' a' p',r=.agg #[c',u',a',p']/\OwnSt (w.heap.size+2) w' c' u' a' p' s:=by
 unfold zaT;obtain ⟨h1,h2,h3,h4⟩:=zcK.1 h;clear h;have HS:=zhd hs;clear hs;unfold zj3 at HS;obtain ⟨ca,cc,rfl⟩:=zao h1;obtain ⟨ua,uc,rfl⟩:=zao h2;obtain ⟨aa,ac,rfl⟩:=zag h3;obtain ⟨pa,pc,rfl⟩:=zag h4;generalize hc:Value.slice ca s.cells.length cc=c at *;generalize hu:Value.slice ua s.undo.length uc=u at *;generalize ha:Value.slice aa s.answers.length ac=a at *;generalize hp:Value.slice pa s.past.length pc=p at *;clear hc hu ha hp;have e0:Ext w ((w.alloc (.cells #[c,u,a,p] 31)).alloc (.cells zT4 31)):=((Ext.refl w).alloc _).alloc _;have HB:=zhd (fun wx (h:Ext ((w.alloc (.cells #[c,u,a,p] 31)).alloc (.cells zT4 31)) wx)=>And.intro (zc8 h) (zcD h));have hsz:((w.alloc (.cells #[c,u,a,p] 31)).alloc (.cells zT4 31)).heap.size=w.heap.size+2:=by simp
 have HSZ:=zhd hsz;clear hsz;go_enter Tryz.func44,Tryz.ntmps44
 go_wp2_with fail
 generalize hw0:(w.alloc (.cells #[c,u,a,p] 31)).alloc (.cells zT4 31)=w0 at *;clear hw0;obtain ⟨b0,-⟩:=HB.o w0 (Ext.refl _);obtain ⟨x0,x1,x2,x3,-⟩:=zb4 b0;clear b0;refine zan 12 [none,none,some (.inr (fun v wx=>wx.ownsRow w0.heap.size 3 1 v s.cells.length (s.cells.map I))),none,none,some (.inr (fun v wx=>wx.ownsRow w0.heap.size 111 2 v s.undo.length (zaB s.undo))),none,none,some (.inr (fun v wx=>wx.ownsRow w0.heap.size 97 4 v s.answers.length (zbB s.answers))),none,none,some (.inr (fun v wx=>wx.ownsRow w0.heap.size 36 6 v s.past.length (zbE s.past)))] (by kernel_rfl) (by kernel_rfl) ?_ ?_
 ·exact ⟨trivial,trivial,zct _ _ _ _ _,trivial,trivial,zct _ _ _ _ _,trivial,trivial,zct _ _ _ _ _,trivial,trivial,zct _ _ _ _ _,trivial⟩
 (refine zap (fun K hK=>?_); go_simp; first | refine hK _ ?_ | refine ⟨(fun h=>by cases h),hK _ ?_⟩; clear hK K)
 refine zay (c) rfl (fun w' hw'=>by have q0:=hw'.cell x0; go_simp) ?_;refine zai fun K h=>?_; go_simp; refine h _ ?_; clear h K;refine zbb _ rfl (fun w' hw' hk=>?_) (fun v5=>?_)
 ·have hw2:=e0.trans hw';have hle:=hw'.size;clear hk;unfold zaQ;go_simp
  exact ⟨Ext.refl _,(zq4 c s.cells w' (h1.ext hw2) (by have:=HS.o.1; omega)).mono fun _ _ _ h=>zbj h hle⟩
 refine zai fun K h=>?_; go_simp; refine h _ ?_; clear h K;(refine zap (fun K hK=>?_); go_simp; first | refine hK _ ?_ | refine ⟨(fun h=>by cases h),hK _ ?_⟩; clear hK K)
 refine zay (u) rfl (fun w' hw'=>by have q0:=hw'.cell x1; go_simp) ?_;refine zai fun K h=>?_; go_simp; refine h _ ?_; clear h K;refine zbb _ rfl (fun w' hw' hk=>?_) (fun v8=>?_)
 ·have hw2:=e0.trans hw';have hle:=hw'.size;clear hk;unfold zaQ;go_simp
  exact ⟨Ext.refl _,(znZ u s.undo w' (h2.ext hw2) (by have:=HS.o.2.1; omega)).mono fun _ _ _ h=>zbj h hle⟩
 refine zai fun K h=>?_; go_simp; refine h _ ?_; clear h K;(refine zap (fun K hK=>?_); go_simp; first | refine hK _ ?_ | refine ⟨(fun h=>by cases h),hK _ ?_⟩; clear hK K)
 refine zay (a) rfl (fun w' hw'=>by have q0:=hw'.cell x2; go_simp) ?_;refine zai fun K h=>?_; go_simp; refine h _ ?_; clear h K;refine zbb _ rfl (fun w' hw' hk=>?_) (fun v11=>?_)
 ·have hw2:=e0.trans hw';have hle:=hw'.size;clear hk;unfold zaQ;go_simp
  exact ⟨Ext.refl _,(zqz a s.answers w' (h3.ext zgO hw2) (by have:=HS.o.2.2.1; omega)).mono fun _ _ _ h=>zbj h hle⟩
 refine zai fun K h=>?_; go_simp; refine h _ ?_; clear h K;(refine zap (fun K hK=>?_); go_simp; first | refine hK _ ?_ | refine ⟨(fun h=>by cases h),hK _ ?_⟩; clear hK K)
 refine zay (p) rfl (fun w' hw'=>by have q0:=hw'.cell x3; go_simp) ?_;refine zai fun K h=>?_; go_simp; refine h _ ?_; clear h K;refine zbb _ rfl (fun w' hw' hk=>?_) (fun v14=>?_)
 ·have hw2:=e0.trans hw';have hle:=hw'.size;clear hk;unfold zaQ;go_simp
  exact ⟨Ext.refl _,(zqJ p s.past w' (h4.ext zjT hw2) (by have:=HS.o.2.2.2; omega)).mono fun _ _ _ h=>zbj h hle⟩
 refine zai fun K h=>?_; go_simp; refine h _ ?_; clear h K;refine zaP ?_;intro w1 e1 hX;have o0:w1.ownsRow w0.heap.size 3 1 v5 s.cells.length (s.cells.map I):=hX 5;have o1:w1.ownsRow w0.heap.size 111 2 v8 s.undo.length (zaB s.undo):=hX 8;have o2:w1.ownsRow w0.heap.size 97 4 v11 s.answers.length (zbB s.answers):=hX 11;have o3:w1.ownsRow w0.heap.size 36 6 v14 s.past.length (zbE s.past):=hX 14;clear hX x0 x1 x2 x3;have ho:OwnSt w0.heap.size w1 v5 v8 v11 v14 s:=⟨o0,o1,o2,o3⟩;obtain ⟨ka,kc,hk0⟩:=za4 o0;obtain ⟨la,lc,hk1⟩:=za4 o1;obtain ⟨ma,mc,hk2⟩:=za4 o2;obtain ⟨na,nc,hk3⟩:=za4 o3;subst hk0 hk1 hk2 hk3;clear o0 o1 o2 o3;have HO:=zhd ho;clear ho;obtain ⟨-,b1⟩:=HB.o w1 e1;obtain ⟨y0,y1,y2,y3,f0,f1,f2,f3⟩:=zb4 b1;go_wp2_with fail
 clear y0 y1 y2 y3 f0 f1 f2 f3;have b2:=set4 b1 (.slice ka s.cells.length kc) (.slice la s.undo.length lc) (.slice ma s.answers.length mc) (.slice na s.past.length nc);obtain ⟨q0,q1,q2,q3,-⟩:=zb4 b2;have m2:=zcj (e0.trans e1) (b:=w.heap.size+1) (by omega) (.slice ka s.cells.length kc) (.slice la s.undo.length lc) (.slice ma s.answers.length mc) (.slice na s.past.length nc);have hlt:w.heap.size+1 < w0.heap.size:=by rw [HSZ.o]; omega
 refine bodyPost_ret (by simp [results,Tryz.results44,go_sem,q0,q1,q2,q3]; rfl) rfl ?_;exact ⟨_,rfl,m2,_,_,_,_,rfl,((((HO.o.set hlt _ _).set hlt _ _).set hlt _ _).set hlt _ _).low (by rw [HSZ.o]; exact Nat.le_refl _)⟩

open Go.RowKit Go.Mk

theorem Tryz.infoBs:(Tryz.prog.info? 81).map (fun i=>(i.zero,i.size,i.bytes))=some (some (.slice none 0 0),1,24):=by kernel_rfl

theorem zdv {w:World} {base e size n:Nat} {v:Value} {xs:List Value} (h:w.ownsRow base e size v n xs):∃ ao cap,v=.slice ao n cap:=zao (Row.of_owns h)

theorem zhr (gen:Int) (bl:List (List UInt8)) (busy:Bool) (nc nt nk na no nn:Int) (pl:List (Int×Int)) (se sn:Int) (box plan bv:Value) (b:List UInt8) (w:World) (A:Nat->Prop) (hb:Rd A (fun w=>zas 1 zcc w box bl) w) (hp:Rd A (fun w=>zax w plan pl) w) (hv:Rd A (fun w=>zbd w bv b) w) (hr:bl.length<=1000) :
  zaK Tryz.prog 35 #[.agg #[I gen,box,.bool busy,I nc,I nt,I nk,I na,I no,I nn,plan,I se,I sn],bv] w A (fun r w'=>zgz zhm (zbY ⟨gen,bl,busy,⟨nc,nt,⟨nk,na,no,nn⟩⟩,pl,⟨se,sn⟩⟩ b).1 (zbY ⟨gen,bl,busy,⟨nc,nt,⟨nk,na,no,nn⟩⟩,pl,⟨se,sn⟩⟩ b).2 r w'):=by
 unfold zaK;obtain ⟨ba,bc,rfl⟩:=zag hb.o;obtain ⟨pa,pc,rfl⟩:=zao hp.o;obtain ⟨va,vc,rfl⟩:=zao hv.o;have HB:=zhd hb;have HP:=zhd hp;have HV:=zhd hv;clear hb hp hv;have e0:Ext w ((w.alloc (.cells #[I gen,(.slice ba bl.length bc),.bool busy,I nc,I nt,I nk,I na,I no,I nn,(.slice pa pl.length pc),I se,I sn] 41)).alloc (.cells zS 41)):=((Ext.refl w).alloc _).alloc _;by_cases h3:3<=bl.length
 case pos =>
  have hX:zbY ⟨gen,bl,busy,⟨nc,nt,⟨nk,na,no,nn⟩⟩,pl,⟨se,sn⟩⟩ b=(⟨gen,bl,busy,⟨nc,nt,⟨nk,na,no,nn⟩⟩,pl,⟨se,sn⟩⟩,9):=if_pos h3;rw [hX];have hl1:(3:Int)<=(bl.length:Int):=by omega
  have hl2:¬ ((bl.length:Int) < 3):=by omega
  clear hX;go_enter Tryz.func35,Tryz.ntmps35
  go_wp2
  refine bodyPost_ret (by simp [results,Tryz.results35,go_sem]; rfl) rfl ?_;exact ⟨_,rfl,((Ext.refl w).alloc _).alloc _,((zbT (zdL (v:=⟨gen,bl,busy,⟨nc,nt,⟨nk,na,no,nn⟩⟩,pl,⟨se,sn⟩⟩) HB.o HP.o)).ext (((Ext.refl w).alloc _).alloc _)).widen (fun _ _ h=>.inl h)⟩
 have hX:zbY ⟨gen,bl,busy,⟨nc,nt,⟨nk,na,no,nn⟩⟩,pl,⟨se,sn⟩⟩ b=(⟨gen,bl++[b],busy,⟨nc,nt,⟨nk,na,no,nn⟩⟩,pl,⟨se,sn⟩⟩,0):=if_neg h3;rw [hX];clear hX;have hl1:¬ ((3:Int)<=(bl.length:Int)):=by omega
 have hl2:(bl.length:Int) < 3:=by omega
 have HR:=zhd hr;clear hr h3;obtain ⟨i0,hi,hz0,hz1,hz2⟩:=info_parts Tryz.infoBs;have HI:=zhd hi;clear hi;obtain ⟨css,hcs,hrow⟩:=zmF (by decide) HB.o;have HCS:=zhd hcs;have HROW:=zhd hrow;clear hcs hrow;have HBL:=zhd (fun wx (h:Ext ((w.alloc (.cells #[I gen,(.slice ba bl.length bc),.bool busy,I nc,I nt,I nk,I na,I no,I nn,(.slice pa pl.length pc),I se,I sn] 41)).alloc (.cells zS 41)) wx)=>And.intro (zc8 h) (zcD h));have hsz:((w.alloc (.cells #[I gen,(.slice ba bl.length bc),.bool busy,I nc,I nt,I nk,I na,I no,I nn,(.slice pa pl.length pc),I se,I sn] 41)).alloc (.cells zS 41)).heap.size=w.heap.size+2:=by simp
 have HSZ:=zhd hsz;clear hsz;obtain ⟨B,hB⟩:=zdF A w.heap.size 2;have HK:=zhd hB;clear hB;have HONES:=zhd (HCS.o.o.ones zse);go_enter Tryz.func35,Tryz.ntmps35
 go_wp2_with (at_builtin; refine zbG ?_)
 unfold Hid;generalize hw0:(w.alloc (.cells #[I gen,(.slice ba bl.length bc),.bool busy,I nc,I nt,I nk,I na,I no,I nn,(.slice pa pl.length pc),I se,I sn] 41)).alloc (.cells zS 41)=w0 at *;clear hw0;have hz:=HSZ.o;have hem:=World.ownsRow_lit (base:=w0.heap.size) (e:=81) (size:=1) w0 #[] 0 (Nat.le_refl _) (by decide) rfl;rw [hz] at hem;refine zaA _ rfl (.tmp 11) (.tmp 13) 32 rfl (w.heap.size+2) 81 i0 (.slice none 0 0) 1 24 zoq HI.o hz0 hz1 hz2 rfl (by decide) (.slice (some ⟨w.heap.size+2,0,none⟩) 0 0) 0 [] rfl hem _ rfl bl.length css.flatten (HROW.o.ext (e0.alloc _)) HONES.o (by have:=HR.o; omega) (by decide) (by simp; omega) ?_;intro v1 w1 ho1 hg1;simp only [Nat.zero_add,List.nil_append] at ho1;have e1:Ext w0 w1:=((Ext.refl w0).alloc (.cells #[] 81)).grown hg1 (fun k hk=>by (have h5:w.heap.size+2=k:=by simpa [Value.ownBlock] using hk); omega);clear hem hg1;go_wp2_with (at_builtin; refine zbG ?_)
 unfold Hid;have hone:Row (w1.alloc (.cells #[.slice va b.length vc] 81)) 1 (.slice (some ⟨w1.heap.size,0,none⟩) 1 1) 1 [.slice va b.length vc]:=Row.of_owns (World.ownsRow_lit (base:=0) (e:=81) (size:=1) w1 #[.slice va b.length vc] 1 (Nat.zero_le _) (by decide) rfl);have hs1:=e1.size;refine zaA _ rfl (.tmp 14) (.tmp 16) 32 rfl (w.heap.size+2) 81 i0 (.slice none 0 0) 1 24 zoq HI.o hz0 hz1 hz2 rfl (by decide) v1 bl.length css.flatten rfl (zam ho1 ((Ext.refl w1).alloc _)) _ rfl 1 _ hone (fun u hu=>by simp at hu; rw [hu]; rfl) (by have:=HR.o; omega) (by decide) (by simp; omega) ?_;intro v2 w2 ho2 hg2;have e2:Ext w0 w2:=(e1.alloc (.cells #[.slice va b.length vc] 81)).grown hg2 (fun k hk=>by have:=(ho1.lt k hk).1; omega);clear hone hg2 ho1 hs1;have ho2:w2.ownsRow (w.heap.size+2) 81 1 v2 (bl.length+1) (css++[[Value.slice va b.length vc]]).flatten:=by simpa using ho2
 have k1:Rd B (fun w=>zas 1 zcc w v2 (bl++[b])) w2:=by
  refine zfA (fun k h _=>HK.o.2.1 k h) (Rd.snoc ((HCS.o.widen HK.o.1).ext (e0.trans e2)) ?_ rfl) ho2 (by decide);exact ((HV.o.widen HK.o.1).ext (e0.trans e2)).imp fun w h=>⟨_,rfl,h⟩
 obtain ⟨qa,qc,hqs⟩:=zdv ho2;subst hqs;have K1:=zhd k1;clear ho2 k1;obtain ⟨b0,b1⟩:=HBL.o w2 e2;have x0:=zec b0;have f0:=zfB b0;have y0:=zec b1;have g0:=zfB b1;go_wp2
 clear x0 f0 y0 g0;have n0:¬ B w.heap.size:=HK.o.2.2.1 _ (Nat.le_refl _) (by omega);have n1:¬ B (w.heap.size+1):=HK.o.2.2.1 _ (by omega) (by omega);have b2:=zoU (zcP (i:=1) (x:=(.slice qa (bl.length+1) qc)) b1 (Nat.succ_ne_self w.heap.size)) [I gen,(.slice qa (bl.length+1) qc),.bool busy,I nc,I nt,I nk,I na,I no,I nn,(.slice pa pl.length pc),I se,I sn] rfl;have ew:=Ext.put (b:=w.heap.size+1) (by omega) [I gen,(.slice qa (bl.length+1) qc),.bool busy,I nc,I nt,I nk,I na,I no,I nn,(.slice pa pl.length pc),I se,I sn] ((e0.trans e2).setCell (p:=⟨w.heap.size,1,none⟩) (Nat.le_refl _) (.slice qa (bl.length+1) qc)) 0;have r1:=Rd.put n1 [I gen,(.slice qa (bl.length+1) qc),.bool busy,I nc,I nt,I nk,I na,I no,I nn,(.slice pa pl.length pc),I se,I sn] (K1.o.set n0 1 (.slice qa (bl.length+1) qc)) 0;have rHP:=Rd.put n1 [I gen,(.slice qa (bl.length+1) qc),.bool busy,I nc,I nt,I nk,I na,I no,I nn,(.slice pa pl.length pc),I se,I sn] (((HP.o.widen HK.o.1).ext (e0.trans e2)).set n0 1 (.slice qa (bl.length+1) qc)) 0;generalize hwz:((((((((((((w2.setCell ⟨w.heap.size,1,none⟩ (.slice qa (bl.length+1) qc)).setCell ⟨w.heap.size+1,0,none⟩ (I gen)).setCell ⟨w.heap.size+1,1,none⟩ (.slice qa (bl.length+1) qc)).setCell ⟨w.heap.size+1,2,none⟩ (.bool busy)).setCell ⟨w.heap.size+1,3,none⟩ (I nc)).setCell ⟨w.heap.size+1,4,none⟩ (I nt)).setCell ⟨w.heap.size+1,5,none⟩ (I nk)).setCell ⟨w.heap.size+1,6,none⟩ (I na)).setCell ⟨w.heap.size+1,7,none⟩ (I no)).setCell ⟨w.heap.size+1,8,none⟩ (I nn)).setCell ⟨w.heap.size+1,9,none⟩ (.slice pa pl.length pc)).setCell ⟨w.heap.size+1,10,none⟩ (I se)).setCell ⟨w.heap.size+1,11,none⟩ (I sn)=wz;replace hwz:zfL (w2.setCell ⟨w.heap.size,1,none⟩ (.slice qa (bl.length+1) qc)) (w.heap.size+1) 0 [I gen,(.slice qa (bl.length+1) qc),.bool busy,I nc,I nt,I nk,I na,I no,I nn,(.slice pa pl.length pc),I se,I sn]=wz:=hwz;rw [hwz] at b2 ew r1 rHP;have q0:=zec b2;clear hwz;refine bodyPost_ret (by simp [results,Tryz.results35,go_sem,q0]; rfl) rfl ?_;exact ⟨_,rfl,ew,Rd.widen (A:=B) (zbT (zdL (v:=⟨gen,bl++[b],busy,⟨nc,nt,⟨nk,na,no,nn⟩⟩,pl,⟨se,sn⟩⟩) r1 rHP)) (fun k _ h=>HK.o.2.2.2 k h)⟩

theorem zhs (cl:List Cl) (at_:Int) (sent:Bool) (gen:Int) (bl:List (List UInt8)) (gl:List Rp) (calls box got bv:Value) (b:List UInt8) (w:World) (A:Nat->Prop) (hc:Rd A (fun w=>zas 4 zdw w calls cl) w) (hb:Rd A (fun w=>zas 1 zcc w box bl) w) (hg:Rd A (fun w=>zas 2 zd6 w got gl) w) (hv:Rd A (fun w=>zbd w bv b) w) (hr:bl.length<=1000) :
  zaK Tryz.prog 38 #[.agg #[calls,I at_,.bool sent,I gen,box,got],bv] w A (fun r w'=>Agg zcC (zcg ⟨cl,at_,sent,gen,bl,gl⟩ b) r w'):=by
 unfold zaK;obtain ⟨ba,bc,rfl⟩:=zag hb.o;obtain ⟨ca,cc,rfl⟩:=zag hc.o;obtain ⟨ga,gc,rfl⟩:=zag hg.o;obtain ⟨va,vc,rfl⟩:=zao hv.o;have HC:=zhd hc;have HB:=zhd hb;have HG:=zhd hg;have HV:=zhd hv;clear hc hb hg hv;have e0:Ext w ((w.alloc (.cells #[(.slice ca cl.length cc),I at_,.bool sent,I gen,(.slice ba bl.length bc),(.slice ga gl.length gc)] 55)).alloc (.cells zC 55)):=((Ext.refl w).alloc _).alloc _;by_cases h3:3<=bl.length
 case pos =>
  have hX:zcg ⟨cl,at_,sent,gen,bl,gl⟩ b=⟨cl,at_,sent,gen,bl,gl⟩:=if_neg (by show ¬ bl.length < 3; omega);rw [hX];have hl1:(3:Int)<=(bl.length:Int):=by omega
  have hl2:¬ ((bl.length:Int) < 3):=by omega
  clear hX;go_enter Tryz.func38,Tryz.ntmps38
  go_wp2
  refine bodyPost_ret (by simp [results,Tryz.results38,go_sem]; rfl) rfl ?_;exact ⟨_,rfl,((Ext.refl w).alloc _).alloc _,((zca (zc0 (c:=⟨cl,at_,sent,gen,bl,gl⟩) HC.o HB.o HG.o)).ext (((Ext.refl w).alloc _).alloc _)).widen (fun _ _ h=>.inl h)⟩
 have hX:zcg ⟨cl,at_,sent,gen,bl,gl⟩ b=⟨cl,at_,sent,gen,bl++[b],gl⟩:=if_pos (by show bl.length < 3; omega);rw [hX];clear hX;have hl1:¬ ((3:Int)<=(bl.length:Int)):=by omega
 have hl2:(bl.length:Int) < 3:=by omega
 have HR:=zhd hr;clear hr h3;obtain ⟨i0,hi,hz0,hz1,hz2⟩:=info_parts Tryz.infoBs;have HI:=zhd hi;clear hi;obtain ⟨css,hcs,hrow⟩:=zmF (by decide) HB.o;have HCS:=zhd hcs;have HROW:=zhd hrow;clear hcs hrow;have HBL:=zhd (fun wx (h:Ext ((w.alloc (.cells #[(.slice ca cl.length cc),I at_,.bool sent,I gen,(.slice ba bl.length bc),(.slice ga gl.length gc)] 55)).alloc (.cells zC 55)) wx)=>And.intro (zc8 h) (zcD h));have hsz:((w.alloc (.cells #[(.slice ca cl.length cc),I at_,.bool sent,I gen,(.slice ba bl.length bc),(.slice ga gl.length gc)] 55)).alloc (.cells zC 55)).heap.size=w.heap.size+2:=by simp
 have HSZ:=zhd hsz;clear hsz;obtain ⟨B,hB⟩:=zdF A w.heap.size 2;have HK:=zhd hB;clear hB;have HONES:=zhd (HCS.o.o.ones zse);go_enter Tryz.func38,Tryz.ntmps38
 go_wp2_with (at_builtin; refine zbG ?_)
 unfold Hid;generalize hw0:(w.alloc (.cells #[(.slice ca cl.length cc),I at_,.bool sent,I gen,(.slice ba bl.length bc),(.slice ga gl.length gc)] 55)).alloc (.cells zC 55)=w0 at *;clear hw0;have hz:=HSZ.o;have hem:=World.ownsRow_lit (base:=w0.heap.size) (e:=81) (size:=1) w0 #[] 0 (Nat.le_refl _) (by decide) rfl;rw [hz] at hem;refine zaA _ rfl (.tmp 9) (.tmp 11) 32 rfl (w.heap.size+2) 81 i0 (.slice none 0 0) 1 24 zoq HI.o hz0 hz1 hz2 rfl (by decide) (.slice (some ⟨w.heap.size+2,0,none⟩) 0 0) 0 [] rfl hem _ rfl bl.length css.flatten (HROW.o.ext (e0.alloc _)) HONES.o (by have:=HR.o; omega) (by decide) (by simp; omega) ?_;intro v1 w1 ho1 hg1;simp only [Nat.zero_add,List.nil_append] at ho1;have e1:Ext w0 w1:=((Ext.refl w0).alloc (.cells #[] 81)).grown hg1 (fun k hk=>by (have h5:w.heap.size+2=k:=by simpa [Value.ownBlock] using hk); omega);clear hem hg1;go_wp2_with (at_builtin; refine zbG ?_)
 unfold Hid;have hone:Row (w1.alloc (.cells #[.slice va b.length vc] 81)) 1 (.slice (some ⟨w1.heap.size,0,none⟩) 1 1) 1 [.slice va b.length vc]:=Row.of_owns (World.ownsRow_lit (base:=0) (e:=81) (size:=1) w1 #[.slice va b.length vc] 1 (Nat.zero_le _) (by decide) rfl);have hs1:=e1.size;refine zaA _ rfl (.tmp 12) (.tmp 14) 32 rfl (w.heap.size+2) 81 i0 (.slice none 0 0) 1 24 zoq HI.o hz0 hz1 hz2 rfl (by decide) v1 bl.length css.flatten rfl (zam ho1 ((Ext.refl w1).alloc _)) _ rfl 1 _ hone (fun u hu=>by simp at hu; rw [hu]; rfl) (by have:=HR.o; omega) (by decide) (by simp; omega) ?_;intro v2 w2 ho2 hg2;have e2:Ext w0 w2:=(e1.alloc (.cells #[.slice va b.length vc] 81)).grown hg2 (fun k hk=>by have:=(ho1.lt k hk).1; omega);clear hone hg2 ho1 hs1;have ho2:w2.ownsRow (w.heap.size+2) 81 1 v2 (bl.length+1) (css++[[Value.slice va b.length vc]]).flatten:=by simpa using ho2
 have k1:Rd B (fun w=>zas 1 zcc w v2 (bl++[b])) w2:=by
  refine zfA (fun k h _=>HK.o.2.1 k h) (Rd.snoc ((HCS.o.widen HK.o.1).ext (e0.trans e2)) ?_ rfl) ho2 (by decide);exact ((HV.o.widen HK.o.1).ext (e0.trans e2)).imp fun w h=>⟨_,rfl,h⟩
 obtain ⟨qa,qc,hqs⟩:=zdv ho2;subst hqs;have K1:=zhd k1;clear ho2 k1;obtain ⟨b0,b1⟩:=HBL.o w2 e2;have x0:=zec b0;have f0:=zfB b0;have y0:=zec b1;have g0:=zfB b1;go_wp2
 clear x0 f0 y0 g0;have n0:¬ B w.heap.size:=HK.o.2.2.1 _ (Nat.le_refl _) (by omega);have n1:¬ B (w.heap.size+1):=HK.o.2.2.1 _ (by omega) (by omega);have b2:=zoU (zcP (i:=4) (x:=(.slice qa (bl.length+1) qc)) b1 (Nat.succ_ne_self w.heap.size)) [(.slice ca cl.length cc),I at_,.bool sent,I gen,(.slice qa (bl.length+1) qc),(.slice ga gl.length gc)] rfl;have ew:=Ext.put (b:=w.heap.size+1) (by omega) [(.slice ca cl.length cc),I at_,.bool sent,I gen,(.slice qa (bl.length+1) qc),(.slice ga gl.length gc)] ((e0.trans e2).setCell (p:=⟨w.heap.size,4,none⟩) (Nat.le_refl _) (.slice qa (bl.length+1) qc)) 0;have r1:=Rd.put n1 [(.slice ca cl.length cc),I at_,.bool sent,I gen,(.slice qa (bl.length+1) qc),(.slice ga gl.length gc)] (K1.o.set n0 4 (.slice qa (bl.length+1) qc)) 0;have rHC:=Rd.put n1 [(.slice ca cl.length cc),I at_,.bool sent,I gen,(.slice qa (bl.length+1) qc),(.slice ga gl.length gc)] (((HC.o.widen HK.o.1).ext (e0.trans e2)).set n0 4 (.slice qa (bl.length+1) qc)) 0;have rHG:=Rd.put n1 [(.slice ca cl.length cc),I at_,.bool sent,I gen,(.slice qa (bl.length+1) qc),(.slice ga gl.length gc)] (((HG.o.widen HK.o.1).ext (e0.trans e2)).set n0 4 (.slice qa (bl.length+1) qc)) 0;generalize hwz:((((((w2.setCell ⟨w.heap.size,4,none⟩ (.slice qa (bl.length+1) qc)).setCell ⟨w.heap.size+1,0,none⟩ (.slice ca cl.length cc)).setCell ⟨w.heap.size+1,1,none⟩ (I at_)).setCell ⟨w.heap.size+1,2,none⟩ (.bool sent)).setCell ⟨w.heap.size+1,3,none⟩ (I gen)).setCell ⟨w.heap.size+1,4,none⟩ (.slice qa (bl.length+1) qc)).setCell ⟨w.heap.size+1,5,none⟩ (.slice ga gl.length gc)=wz;replace hwz:zfL (w2.setCell ⟨w.heap.size,4,none⟩ (.slice qa (bl.length+1) qc)) (w.heap.size+1) 0 [(.slice ca cl.length cc),I at_,.bool sent,I gen,(.slice qa (bl.length+1) qc),(.slice ga gl.length gc)]=wz:=hwz;rw [hwz] at b2 ew r1 rHC rHG;have q0:=zec b2;clear hwz;refine bodyPost_ret (by simp [results,Tryz.results38,go_sem,q0]; rfl) rfl ?_;exact ⟨_,rfl,ew,Rd.widen (A:=B) (zca (zc0 (c:=⟨cl,at_,sent,gen,bl++[b],gl⟩) rHC r1 rHG)) (fun k _ h=>HK.o.2.2.2 k h)⟩

open Go.RowKit Go.Mk

theorem zo7 {w:World} {v:Value} {l:List (List UInt8)} (h:zas 1 zcc w v l):∃ ao cap,v=.slice ao l.length cap/\l.length<=cap/\cap<=maxLen /\
  ∀ k x,l[k]?=some x->∃ b off bv,ao=some ⟨b,off,none⟩/\w.cell? ⟨b,off+k,none⟩=some bv/\zbd w bv x:=by
 obtain ⟨ao,cap,h1,h2,h3,-,h5⟩:=h.form (by decide)
 refine ⟨ao,cap,h1,h2,h3,fun k x hx=>?_⟩
 obtain ⟨b,off,c,e,-,⟨bv,rfl,hb⟩,hcell⟩:=h5 k x hx
 refine ⟨b,off,bv,e,?_,hb⟩
 have:=hcell 0 bv rfl
 rwa [Nat.mul_one,Nat.add_zero] at this

theorem zjA (v:Value) (xs:List UInt8) (w:World) (hv:zbd w v xs) (hr:xs.length<=140737488355328) :
  zaT Tryz.prog 84 #[v] w fun r w'=>w'.ownsRow w.heap.size 5 1 r xs.length (xs.map U):=by
 unfold zaT;obtain ⟨i0,hi,hz0,hz1,hz2⟩:=info_parts Tryz.infoByte;have hsz:(Tryz.prog.info? 5).map (·.size)=some 1:=by rw [hi]; simp [hz1]
 have hrow:Row w 1 v xs.length (xs.map U):=hv;clear hv;obtain ⟨hlen,ao,cap,rfl,h1,h2,h0,h3⟩:=hrow;unfold maxLen at h2;go_enter Tryz.func84,Tryz.ntmps84
 go_wp2_with (at_make; refine wpList_make_full _ rfl _ _ 81 rfl w.heap.size 5 i0 (.int .u8 0) 1 zit hi hz0 hz1 .i64 .i64 _ _ xs.length rfl rfl rfl rfl (by rw [hz2]; omega) (by unfold maxLen; omega) (Nat.le_refl _) ?_; intro w1 hown hgrow)
 have he1:Ext w w1:=(Ext.refl w).grown hgrow (fun k hk=>by cases hk);obtain ⟨w2,hrun,hown2,hgrow2⟩:=zb7 (P:=Tryz.prog) w1 81 3 5 1 zit hsz w.heap.size w.heap.size xs.length _ (xs.map U) _ hown (Row.ext ⟨hlen,ao,cap,rfl,h1,h2,h0,h3⟩ he1) (znq xs);have he2:Ext w w2:=he1.grown hgrow2 (fun k hk=>by cases hk; exact Nat.le_refl _);rw [hrun];clear hrun hown hgrow hgrow2 he1 h3;go_wp2
 go_ret
 exact ⟨_,rfl,he2,hown2⟩

theorem znj (v:Value) (xs:List (Int×Int)) (w:World) (hv:zax w v xs) (hr:xs.length * 16<=140737488355328) :
  zaT Tryz.prog 78 #[v] w fun r w'=>w'.ownsRow w.heap.size 111 2 r xs.length (zaB xs):=by
 unfold zaT;obtain ⟨i0,hi,hz0,hz1,hz2⟩:=info_parts Tryz.infoWrite;have hsz:(Tryz.prog.info? 111).map (·.size)=some 2:=by rw [hi]; simp [hz1]
 have hrow:Row w 2 v xs.length (zaB xs):=hv;clear hv;obtain ⟨hlen,ao,cap,rfl,h1,h2,h0,h3⟩:=hrow;unfold maxLen at h2;go_enter Tryz.func78,Tryz.ntmps78
 go_wp2_with (at_make; refine wpList_make_full _ rfl _ _ 27 rfl w.heap.size 111 i0 (.agg #[.int .i64 0,.int .i64 0]) 2 zfG hi hz0 hz1 .i64 .i64 _ _ xs.length rfl rfl rfl rfl (by rw [hz2]; omega) (by unfold maxLen; omega) (Nat.le_refl _) ?_; intro w1 hown hgrow)
 have he1:Ext w w1:=(Ext.refl w).grown hgrow (fun k hk=>by cases hk);obtain ⟨w2,hrun,hown2,hgrow2⟩:=zb7 (P:=Tryz.prog) w1 27 3 111 2 zfG hsz w.heap.size w.heap.size xs.length _ (zaB xs) _ hown (Row.ext ⟨hlen,ao,cap,rfl,h1,h2,h0,h3⟩ he1) (zbK xs);have he2:Ext w w2:=he1.grown hgrow2 (fun k hk=>by cases hk; exact Nat.le_refl _);rw [hrun];clear hrun hown hgrow hgrow2 he1 h3;go_wp2
 go_ret
 exact ⟨_,rfl,he2,hown2⟩

def zdn (base:Nat) (w:World) (u:Value) (bl:List (List UInt8)):Prop:=∃ evs:List Value,w.ownsRow base 81 1 u bl.length evs/\∀ (i:Nat) (b:List UInt8),bl[i]?=some b->∃ ev,evs[i]?=some ev/\w.ownsRow base 5 1 ev b.length (b.map U)

theorem zki (v:Value) (bl:List (List UInt8)) (w:World) (hv:zas 1 zcc w v bl) (h1:bl.length * 24<=140737488355328) (h2:∀ b ∈ bl,b.length<=140737488355328) :
  zaT Tryz.prog 57 #[v] w fun r w'=>zdn w.heap.size w' r bl/\∃ g,r=.slice (some ⟨g,0,none⟩) bl.length bl.length:=by
 unfold zaT;obtain ⟨i0,hi,hz0,hz1,hz2⟩:=info_parts Tryz.infoBs;obtain ⟨ao,cap,rfl,g1,g2,g3⟩:=zo7 hv;unfold maxLen at g2;have G3:=zhd g3;have H2:=zhd h2;clear hv g3 h2;go_enter Tryz.func57,Tryz.ntmps57
 go_wp2_with (at_make; refine wpList_make_full _ rfl _ _ 32 rfl w.heap.size 81 i0 (.slice none 0 0) 1 zoq hi hz0 hz1 .i64 .i64 _ _ bl.length rfl rfl rfl rfl (by rw [hz2]; omega) (by unfold maxLen; omega) (Nat.le_refl _) ?_; intro w1 hown hgrow)
 have he1:Ext w w1:=(Ext.refl w).grown hgrow (fun k hk=>by cases hk);clear hgrow hi hz0 hz1 hz2;generalize hg:w.heap.size=g at *;have HG:=zhd hg;clear hg;have HO:=zhd hown;clear hown;go_wp2_with fail
 go_loopw [11] (fun i wr=>∃ (k:Nat) (evs:List Value),k<=bl.length/\i=I k/\wr.ownsRow g 81 1 (.slice (some ⟨g,0,none⟩) bl.length bl.length) bl.length evs/\(∀ (j:Nat) (b:List UInt8),j < k->bl[j]?=some b->∃ ev,evs[j]?=some ev/\wr.ownsRow g 5 1 ev b.length (b.map U))/\Ext w wr) (fun i _=>bl.length - (intOf i).toNat)
 case atStart=>exact ⟨0,_,Nat.zero_le _,rfl,HO.o,fun j b hj=>by omega,he1⟩
 case round =>
  obtain ⟨k,evs,hk,rfl,ho,hall,he⟩:=hrel;have HALL:=zhd hall;clear hall he1 HO;by_cases hlt:k < bl.length
  ·obtain ⟨x,hx⟩:∃ x,bl[k]?=some x:=⟨bl[k],List.getElem?_eq_getElem hlt⟩;obtain ⟨xb,xo,bv,rfl,hcell,hby⟩:=G3.o k x hx;have hxl:=H2.o x (List.mem_of_getElem? hx);have HX:=zhd hx;clear hx;replace hcell:=he.cell hcell;obtain ⟨ba,bc,rfl⟩:=zao hby;have HBY:=zhd (hby.ext he);clear hby;go_wp2_with fail
   refine (zjA _ x wr HBY.o hxl).to fun r w2 e2 hr=>?_;obtain ⟨ra,rc,rfl⟩:=za4 hr;have hown2:=zam ho e2;have hle:evs.length=bl.length:=by have:=ho.1; simpa using this
   have c5:w2.cell? ⟨g,k,none⟩=some (evs[k]'(by omega)):=by
    have q:=(Row.of_owns hown2);obtain ⟨_,ao2,cap2,eq2,_,_,_,q5⟩:=q;obtain ⟨b3,o3,e3,q6⟩:=q5 k _ (List.getElem?_eq_getElem (by omega));simp only [Value.slice.injEq] at eq2;rw [<- eq2.1] at e3;simp only [Option.some.injEq,Addr.mk.injEq,and_true] at e3;obtain ⟨rfl,rfl⟩:=e3;simpa using q6
   have f5:w2.frozen? ⟨g,k,none⟩=false:=hown2.frozenAt _;have hr2:=zhd (zbj hr (b2:=g) (by have:=he.size; have:=HG.o; omega));have he2:=he.trans e2;have E2:=zhd e2;clear hcell ho e2 he hr;go_wp2
   go_roundw
   case rel =>
    have hst:=hown2.stored k (.slice ra x.length rc);refine ⟨k+1,_,by omega,by go_num,hst.1,fun j b hj hb=>?_,he2.setCell (by rw [HG.o]; exact Nat.le_refl _) _⟩;by_cases hjk:j=k
    ·subst hjk;have hb2:bl[j]?=some b:=hb;rw [HX.o] at hb2;cases hb2
     refine ⟨_,List.getElem?_set_self (by omega),?_⟩;exact hr2.o.kept hst.2 (zd4 hr2.o hown2 (by decide))
    ·obtain ⟨ev,h3,h4⟩:=HALL.o j b (by omega) hb;refine ⟨ev,by rw [List.getElem?_set_ne (fun e=>hjk e.symm)]; exact h3,?_⟩;have h5:=zam h4 E2.o;exact h5.kept hst.2 (zd4 h5 hown2 (by decide))
   case measure=>simp [intOf]; omega
  ·have hkl:k=bl.length:=by omega
   subst hkl;go_wp2
   go_ret
   exact ⟨_,rfl,he,⟨evs,by rw [HG.o]; exact ho,fun i b hb=>by rw [HG.o]; exact HALL.o i b (List.getElem?_eq_some_iff.1 hb).1 hb⟩,_,rfl⟩

theorem zdb {base e size n:Nat} {v:Value} {cs:List Value} {w:World} {B:Nat->Prop} (h:w.ownsRow base e size v n cs) (hB:∀ g,v.ownBlock=some g->B g):Rd B (fun w=>Row w size v n cs) w:=fun w2 h2=>by
 refine Row.heap (Row.of_owns h) (fun j u b off hj ⟨m,cap,e⟩=>?_)
 rcases h.2 with ⟨rfl,_⟩ | ⟨g,cap',cur,rfl,hb,hg,_⟩
 ·cases e
 ·simp at e
  obtain ⟨⟨rfl,_⟩,_⟩:=e
  exact h2 g (hB g rfl) (Array.getElem?_eq_some_iff.1 hg).1
theorem zdn.rd {base:Nat} {w:World} {u:Value} {bl:List (List UInt8)} {B:Nat->Prop} (h:zdn base w u bl) (hB:∀ g,base<=g->(∀ cs t,w.heap[g]?=some (.cells cs t (0,0))->t=81∨t=5)->B g):Rd B (fun w=>zas 1 zcc w u bl) w:=by
 obtain ⟨evs,h1,h2⟩:=h
 have hl:evs.length=bl.length:=by have:=h1.1; simpa using this
 have hin:∀ {e size n:Nat} {v:Value} {cs:List Value},w.ownsRow base e size v n cs->(e=81∨e=5)->∀ g,v.ownBlock=some g->B g:=fun {e size n v cs} ho he g hg=>by
  refine hB g (ho.lt g hg).1 (fun cs' t' hc=>?_)
  by_cases hne:e=t'
  ·rw [<- hne]; exact he
  ·exact absurd hg (zbc ho hc hne)
 have r1:=zdb h1 (hin h1 (.inl rfl))
 have r2:Rd B (fun w=>∀ (i:Nat) (b:List UInt8) (ev:Value),bl[i]?=some b->evs[i]?=some ev->zbd w ev b) w:=fun w2 hk i b ev hb hev=>by
  obtain ⟨ev',h3,h4⟩:=h2 i b hb
  rw [hev] at h3
  cases h3
  exact zdb h4 (hin h4 (.inr rfl)) w2 hk
 refine (r1.and r2).imp fun w' hw=>⟨evs.map (fun e=>[e]),⟨by simp [hl],fun i c x hc hx=>?_⟩,?_⟩
 ·rw [List.getElem?_map] at hc
  cases he:evs[i]? with
  | none=>rw [he] at hc; cases hc
  | some ev =>
   rw [he] at hc
   simp at hc
   subst hc
   exact ⟨rfl,ev,rfl,hw.2 i x ev hx he⟩
 ·have hf:∀ l:List Value,(l.map fun e=>[e]).flatten=l:=fun l=>by
   induction l with
   | nil=>rfl
   | cons a l ih=>rw [List.map_cons,List.flatten_cons,ih]; rfl
  rw [hf]
  exact hw.1
theorem zdn.ext {base:Nat} {w w':World} {u:Value} {bl:List (List UInt8)} (h:zdn base w u bl) (he:Ext w w'):zdn base w' u bl:=by
 obtain ⟨evs,h1,h2⟩:=h
 refine ⟨evs,zam h1 he,fun i b hb=>?_⟩
 obtain ⟨ev,h3,h4⟩:=h2 i b hb
 exact ⟨ev,h3,zam h4 he⟩
theorem zdn.low {base b2:Nat} {w:World} {u:Value} {bl:List (List UInt8)} (h:zdn base w u bl) (hle:b2<=base):zdn b2 w u bl:=by
 obtain ⟨evs,h1,h2⟩:=h
 refine ⟨evs,zbj h1 hle,fun i b hb=>?_⟩
 obtain ⟨ev,h3,h4⟩:=h2 i b hb
 exact ⟨ev,h3,zbj h4 hle⟩
theorem zdn.kept {base:Nat} {w w':World} {u:Value} {bl:List (List UInt8)} (h:zdn base w u bl) {b:Nat} (hg:w.grownBy w' (some b)) {cs:Array Value} {t:TypeId} (hb:w.heap[b]?=some (.cells cs t (0,0))) (hne:(81:Nat)≠t) (hne2:(5:Nat)≠t):zdn base w' u bl:=by
 obtain ⟨evs,h1,h2⟩:=h
 refine ⟨evs,h1.kept hg (.inr (zbc h1 hb hne)),fun i b hb'=>?_⟩
 obtain ⟨ev,h3,h4⟩:=h2 i b hb'
 exact ⟨ev,h3,h4.kept hg (.inr (zbc h4 hb hne2))⟩

end Go.Proofs.YtdmipnnfoolelafGreat

/- Texts of the proof, merged: S7 N1 V1. -/
import Derived.Test.YtdmipnnfoolelagGreatKTA
import Derived.Test.YtdmipnnfoolelagGreatKTK
import Derived.Test.YtdmipnnfoolelagGreatKTD
import Derived.Test.YtdmipnnfoolelagGreatKTI
set_option maxHeartbeats 2000000
set_option maxRecDepth 100000

namespace Go.Proofs.YtdmipnnfoolelagGreat
open Go.RowKit Go.Mk

theorem zp3 (v:Value) (xs:List Int) (w:World) (hv:zbE w v xs) (hr:xs.length * 8<=140737488355328) :
  zaV Tryz.prog 53 #[v] w fun r w'=>w'.ownsRow w.heap.size 3 1 r xs.length (xs.map I):=by
 unfold zaV;obtain ⟨i0,hi,hz0,hz1,hz2⟩:=info_parts Tryz.infoInt;have hsz:(Tryz.prog.info? 3).map (·.size)=some 1:=by rw [hi]; simp [hz1]
 have hrow:Row w 1 v xs.length (xs.map I):=hv;clear hv;obtain ⟨hlen,ao,cap,rfl,h1,h2,h0,h3⟩:=hrow;unfold maxLen at h2;go_enter Tryz.func53,Tryz.ntmps53
 go_wp2_with (at_make; refine wpList_make_full _ rfl _ _ 27 rfl w.heap.size 3 i0 (.int .i64 0) 1 zoh hi hz0 hz1 .i64 .i64 _ _ xs.length rfl rfl rfl rfl (by rw [hz2]; omega) (by unfold maxLen; omega) (Nat.le_refl _) ?_; intro w1 hown hgrow)
 have he1:Ext w w1:=(Ext.refl w).grown hgrow (fun k hk=>by cases hk);obtain ⟨w2,hrun,hown2,hgrow2⟩:=zb2 (P:=Tryz.prog) w1 27 3 3 1 zoh hsz w.heap.size w.heap.size xs.length _ (xs.map I) _ hown (Row.ext ⟨hlen,ao,cap,rfl,h1,h2,h0,h3⟩ he1) (zja xs);have he2:Ext w w2:=he1.grown hgrow2 (fun k hk=>by cases hk; exact Nat.le_refl _);rw [hrun];clear hrun hown hgrow hgrow2 he1 h3;go_wp2
 go_ret
 exact ⟨_,rfl,he2,hown2⟩

theorem znm (v:Value) (xs:List (Int×Int)) (w:World) (hv:zaw w v xs) (hr:xs.length * 16<=140737488355328) :
  zaV Tryz.prog 54 #[v] w fun r w'=>w'.ownsRow w.heap.size 73 2 r xs.length (zaz xs):=by
 unfold zaV;obtain ⟨i0,hi,hz0,hz1,hz2⟩:=info_parts Tryz.infoWrite;have hsz:(Tryz.prog.info? 73).map (·.size)=some 2:=by rw [hi]; simp [hz1]
 have hrow:Row w 2 v xs.length (zaz xs):=hv;clear hv;obtain ⟨hlen,ao,cap,rfl,h1,h2,h0,h3⟩:=hrow;unfold maxLen at h2;go_enter Tryz.func54,Tryz.ntmps54
 go_wp2_with (at_make; refine wpList_make_full _ rfl _ _ 28 rfl w.heap.size 73 i0 (.agg #[.int .i64 0,.int .i64 0]) 2 zfz hi hz0 hz1 .i64 .i64 _ _ xs.length rfl rfl rfl rfl (by rw [hz2]; omega) (by unfold maxLen; omega) (Nat.le_refl _) ?_; intro w1 hown hgrow)
 have he1:Ext w w1:=(Ext.refl w).grown hgrow (fun k hk=>by cases hk);obtain ⟨w2,hrun,hown2,hgrow2⟩:=zb2 (P:=Tryz.prog) w1 28 3 73 2 zfz hsz w.heap.size w.heap.size xs.length _ (zaz xs) _ hown (Row.ext ⟨hlen,ao,cap,rfl,h1,h2,h0,h3⟩ he1) (zbD xs);have he2:Ext w w2:=he1.grown hgrow2 (fun k hk=>by cases hk; exact Nat.le_refl _);rw [hrun];clear hrun hown hgrow hgrow2 he1 h3;go_wp2
 go_ret
 exact ⟨_,rfl,he2,hown2⟩

theorem zoZ (v:Value) (xs:List An) (w:World) (hv:zat 4 zhG w v xs) (hr:xs.length * 32<=140737488355328) :
  zaV Tryz.prog 55 #[v] w fun r w'=>w'.ownsRow w.heap.size 100 4 r xs.length (zbA xs):=by
 unfold zaV;obtain ⟨i0,hi,hz0,hz1,hz2⟩:=info_parts Tryz.infoAnswer;have hsz:(Tryz.prog.info? 100).map (·.size)=some 4:=by rw [hi]; simp [hz1]
 have hrow:Row w 4 v xs.length (zbA xs):=(zc6 (f:=fun (x:An)=>[I x.client,I x.token,I x.reply.err,I x.reply.n]) (fun _=>rfl)).1 hv;clear hv;obtain ⟨hlen,ao,cap,rfl,h1,h2,h0,h3⟩:=hrow;unfold maxLen at h2;go_enter Tryz.func55,Tryz.ntmps55
 go_wp2_with (at_make; refine wpList_make_full _ rfl _ _ 29 rfl w.heap.size 100 i0 (.agg #[.int .i64 0,.int .i64 0,.int .i64 0,.int .i64 0]) 4 zmx hi hz0 hz1 .i64 .i64 _ _ xs.length rfl rfl rfl rfl (by rw [hz2]; omega) (by unfold maxLen; omega) (Nat.le_refl _) ?_; intro w1 hown hgrow)
 have he1:Ext w w1:=(Ext.refl w).grown hgrow (fun k hk=>by cases hk);obtain ⟨w2,hrun,hown2,hgrow2⟩:=zb2 (P:=Tryz.prog) w1 29 3 100 4 zmx hsz w.heap.size w.heap.size xs.length _ (zbA xs) _ hown (Row.ext ⟨hlen,ao,cap,rfl,h1,h2,h0,h3⟩ he1) (zdP xs);have he2:Ext w w2:=he1.grown hgrow2 (fun k hk=>by cases hk; exact Nat.le_refl _);rw [hrun];clear hrun hown hgrow hgrow2 he1 h3;go_wp2
 go_ret
 exact ⟨_,rfl,he2,hown2⟩

theorem zpj (v:Value) (xs:List Rq) (w:World) (hv:zat 6 zhz w v xs) (hr:xs.length * 48<=140737488355328) :
  zaV Tryz.prog 56 #[v] w fun r w'=>w'.ownsRow w.heap.size 37 6 r xs.length (zbo xs):=by
 unfold zaV;obtain ⟨i0,hi,hz0,hz1,hz2⟩:=info_parts Tryz.infoRequest;have hsz:(Tryz.prog.info? 37).map (·.size)=some 6:=by rw [hi]; simp [hz1]
 have hrow:Row w 6 v xs.length (zbo xs):=zeK.1 hv;clear hv;obtain ⟨hlen,ao,cap,rfl,h1,h2,h0,h3⟩:=hrow;unfold maxLen at h2;go_enter Tryz.func56,Tryz.ntmps56
 go_wp2_with (at_make; refine wpList_make_full _ rfl _ _ 30 rfl w.heap.size 37 i0 (.agg #[.int .i64 0,.int .i64 0,.int .i64 0,.int .i64 0,.int .i64 0,.int .i64 0]) 6 zlX hi hz0 hz1 .i64 .i64 _ _ xs.length rfl rfl rfl rfl (by rw [hz2]; omega) (by unfold maxLen; omega) (Nat.le_refl _) ?_; intro w1 hown hgrow)
 have he1:Ext w w1:=(Ext.refl w).grown hgrow (fun k hk=>by cases hk);obtain ⟨w2,hrun,hown2,hgrow2⟩:=zb2 (P:=Tryz.prog) w1 30 3 37 6 zlX hsz w.heap.size w.heap.size xs.length _ (zbo xs) _ hown (Row.ext ⟨hlen,ao,cap,rfl,h1,h2,h0,h3⟩ he1) (zdM xs);have he2:Ext w w2:=he1.grown hgrow2 (fun k hk=>by cases hk; exact Nat.le_refl _);rw [hrun];clear hrun hown hgrow hgrow2 he1 h3;go_wp2
 go_ret
 exact ⟨_,rfl,he2,hown2⟩

structure OwnSt (base:Nat) (w:World) (c u a p:Value) (s:St):Prop where
 cells:w.ownsRow base 3 1 c s.cells.length (s.cells.map I)
 undo:w.ownsRow base 73 2 u s.undo.length (zaz s.undo)
 answers:w.ownsRow base 100 4 a s.answers.length (zbA s.answers)
 past:w.ownsRow base 37 6 p s.past.length (zbo s.past)
theorem OwnSt.rd {base:Nat} {w:World} {c u a p:Value} {s:St} (h:OwnSt base w c u a p s):Rd (fun k=>base<=k) (fun w=>zcn w [c,u,a,p] s) w :=
 zdp (zdY h.cells) (zec h.undo) (zel h.answers) (zg8 h.past)
theorem OwnSt.ext {base:Nat} {w w':World} {c u a p:Value} {s:St} (h:OwnSt base w c u a p s) (he:Ext w w'):OwnSt base w' c u a p s :=
 ⟨zak h.cells he,zak h.undo he,zak h.answers he,zak h.past he⟩
theorem zfb {w:World} {base e size n b:Nat} {v:Value} {xs:List Value} (h:w.ownsRow base e size v n xs) (hb:b < base):v.ownBlock≠some b:=fun e=>by have:=(h.lt b e).1; omega
theorem OwnSt.set {base:Nat} {w:World} {c u a p:Value} {s:St} (h:OwnSt base w c u a p s) {b:Nat} (hb:b < base) (i:Nat) (x:Value):OwnSt base (w.setCell ⟨b,i,none⟩ x) c u a p s :=
 ⟨zbq h.cells (zfb h.cells hb) i x,zbq h.undo (zfb h.undo hb) i x,zbq h.answers (zfb h.answers hb) i x,zbq h.past (zfb h.past hb) i x⟩
theorem OwnSt.low {b1 b2:Nat} {w:World} {c u a p:Value} {s:St} (h:OwnSt b1 w c u a p s) (hle:b2<=b1):OwnSt b2 w c u a p s:=⟨zbg h.cells hle,zbg h.undo hle,zbg h.answers hle,zbg h.past hle⟩
theorem za3 {w:World} {base e size n:Nat} {v:Value} {xs:List Value} (h:w.ownsRow base e size v n xs):∃ ao cap,v=.slice ao n cap:=zao (Row.of_owns h)

def zji (s:St):Prop:=s.cells.length * 8<=100000000000000/\s.undo.length * 16<=100000000000000/\s.answers.length * 32<=100000000000000/\s.past.length * 48<=100000000000000

theorem zhN (c u a p:Value) (s:St) (w:World) (h:zcn w [c,u,a,p] s) (hs:zji s) :
  zaV Tryz.prog 32 #[.agg #[c,u,a,p]] w fun r w'=>∃ c' u' a' p',r=.agg #[c',u',a',p']/\OwnSt (w.heap.size+2) w' c' u' a' p' s:=by
 unfold zaV;obtain ⟨h1,h2,h3,h4⟩:=zc7.1 h;clear h;have HS:=zhd hs;clear hs;unfold zji at HS;obtain ⟨ca,cc,rfl⟩:=zao h1;obtain ⟨ua,uc,rfl⟩:=zao h2;obtain ⟨aa,ac,rfl⟩:=zag h3;obtain ⟨pa,pc,rfl⟩:=zag h4;generalize hc:Value.slice ca s.cells.length cc=c at *;generalize hu:Value.slice ua s.undo.length uc=u at *;generalize ha:Value.slice aa s.answers.length ac=a at *;generalize hp:Value.slice pa s.past.length pc=p at *;clear hc hu ha hp;have e0:Ext w ((w.alloc (.cells #[c,u,a,p] 32)).alloc (.cells zT4 32)):=((Ext.refl w).alloc _).alloc _;have HB:=zhd (fun wx (h:Ext ((w.alloc (.cells #[c,u,a,p] 32)).alloc (.cells zT4 32)) wx)=>And.intro (zdq h) (zcI h));have hsz:((w.alloc (.cells #[c,u,a,p] 32)).alloc (.cells zT4 32)).heap.size=w.heap.size+2:=by simp
 have HSZ:=zhd hsz;clear hsz;go_enter Tryz.func32,Tryz.ntmps32
 go_wp2_with fail
 generalize hw0:(w.alloc (.cells #[c,u,a,p] 32)).alloc (.cells zT4 32)=w0 at *;clear hw0;obtain ⟨b0,-⟩:=HB.o w0 (Ext.refl _);obtain ⟨x0,x1,x2,x3,-⟩:=zcl b0;clear b0;refine zam 12 [none,none,some (.inr (fun v wx=>wx.ownsRow w0.heap.size 3 1 v s.cells.length (s.cells.map I))),none,none,some (.inr (fun v wx=>wx.ownsRow w0.heap.size 73 2 v s.undo.length (zaz s.undo))),none,none,some (.inr (fun v wx=>wx.ownsRow w0.heap.size 100 4 v s.answers.length (zbA s.answers))),none,none,some (.inr (fun v wx=>wx.ownsRow w0.heap.size 37 6 v s.past.length (zbo s.past)))] (by kernel_rfl) (by kernel_rfl) ?_ ?_
 ·exact ⟨trivial,trivial,zci _ _ _ _ _,trivial,trivial,zci _ _ _ _ _,trivial,trivial,zci _ _ _ _ _,trivial,trivial,zci _ _ _ _ _,trivial⟩
 (refine zar (fun K hK=>?_); go_simp; first | refine hK _ ?_ | refine ⟨(fun h=>by cases h),hK _ ?_⟩; clear hK K)
 refine zaE (c) rfl (fun w' hw'=>by have q0:=hw'.cell x0; go_simp) ?_;refine zan fun K h=>?_; go_simp; refine h _ ?_; clear h K;refine za8 _ rfl (fun w' hw' hk=>?_) (fun v5=>?_)
 ·have hw2:=e0.trans hw';have hle:=hw'.size;clear hk;unfold zaT;go_simp
  exact ⟨Ext.refl _,(zp3 c s.cells w' (h1.ext hw2) (by have:=HS.o.1; omega)).mono fun _ _ _ h=>zbg h hle⟩
 refine zan fun K h=>?_; go_simp; refine h _ ?_; clear h K;(refine zar (fun K hK=>?_); go_simp; first | refine hK _ ?_ | refine ⟨(fun h=>by cases h),hK _ ?_⟩; clear hK K)
 refine zaE (u) rfl (fun w' hw'=>by have q0:=hw'.cell x1; go_simp) ?_;refine zan fun K h=>?_; go_simp; refine h _ ?_; clear h K;refine za8 _ rfl (fun w' hw' hk=>?_) (fun v8=>?_)
 ·have hw2:=e0.trans hw';have hle:=hw'.size;clear hk;unfold zaT;go_simp
  exact ⟨Ext.refl _,(znm u s.undo w' (h2.ext hw2) (by have:=HS.o.2.1; omega)).mono fun _ _ _ h=>zbg h hle⟩
 refine zan fun K h=>?_; go_simp; refine h _ ?_; clear h K;(refine zar (fun K hK=>?_); go_simp; first | refine hK _ ?_ | refine ⟨(fun h=>by cases h),hK _ ?_⟩; clear hK K)
 refine zaE (a) rfl (fun w' hw'=>by have q0:=hw'.cell x2; go_simp) ?_;refine zan fun K h=>?_; go_simp; refine h _ ?_; clear h K;refine za8 _ rfl (fun w' hw' hk=>?_) (fun v11=>?_)
 ·have hw2:=e0.trans hw';have hle:=hw'.size;clear hk;unfold zaT;go_simp
  exact ⟨Ext.refl _,(zoZ a s.answers w' (h3.ext zgg hw2) (by have:=HS.o.2.2.1; omega)).mono fun _ _ _ h=>zbg h hle⟩
 refine zan fun K h=>?_; go_simp; refine h _ ?_; clear h K;(refine zar (fun K hK=>?_); go_simp; first | refine hK _ ?_ | refine ⟨(fun h=>by cases h),hK _ ?_⟩; clear hK K)
 refine zaE (p) rfl (fun w' hw'=>by have q0:=hw'.cell x3; go_simp) ?_;refine zan fun K h=>?_; go_simp; refine h _ ?_; clear h K;refine za8 _ rfl (fun w' hw' hk=>?_) (fun v14=>?_)
 ·have hw2:=e0.trans hw';have hle:=hw'.size;clear hk;unfold zaT;go_simp
  exact ⟨Ext.refl _,(zpj p s.past w' (h4.ext zjr hw2) (by have:=HS.o.2.2.2; omega)).mono fun _ _ _ h=>zbg h hle⟩
 refine zan fun K h=>?_; go_simp; refine h _ ?_; clear h K;refine za0 ?_;intro w1 e1 hX;have o0:w1.ownsRow w0.heap.size 3 1 v5 s.cells.length (s.cells.map I):=hX 5;have o1:w1.ownsRow w0.heap.size 73 2 v8 s.undo.length (zaz s.undo):=hX 8;have o2:w1.ownsRow w0.heap.size 100 4 v11 s.answers.length (zbA s.answers):=hX 11;have o3:w1.ownsRow w0.heap.size 37 6 v14 s.past.length (zbo s.past):=hX 14;clear hX x0 x1 x2 x3;have ho:OwnSt w0.heap.size w1 v5 v8 v11 v14 s:=⟨o0,o1,o2,o3⟩;obtain ⟨ka,kc,hk0⟩:=za3 o0;obtain ⟨la,lc,hk1⟩:=za3 o1;obtain ⟨ma,mc,hk2⟩:=za3 o2;obtain ⟨na,nc,hk3⟩:=za3 o3;subst hk0 hk1 hk2 hk3;clear o0 o1 o2 o3;have HO:=zhd ho;clear ho;obtain ⟨-,b1⟩:=HB.o w1 e1;obtain ⟨y0,y1,y2,y3,f0,f1,f2,f3⟩:=zcl b1;go_wp2_with fail
 clear y0 y1 y2 y3 f0 f1 f2 f3;have b2:=set4 b1 (.slice ka s.cells.length kc) (.slice la s.undo.length lc) (.slice ma s.answers.length mc) (.slice na s.past.length nc);obtain ⟨q0,q1,q2,q3,-⟩:=zcl b2;have m2:=zb8 (e0.trans e1) (b:=w.heap.size+1) (by omega) (.slice ka s.cells.length kc) (.slice la s.undo.length lc) (.slice ma s.answers.length mc) (.slice na s.past.length nc);have hlt:w.heap.size+1 < w0.heap.size:=by rw [HSZ.o]; omega
 refine bodyPost_ret (by simp [results,Tryz.results32,go_sem,q0,q1,q2,q3]; rfl) rfl ?_;exact ⟨_,rfl,m2,_,_,_,_,rfl,((((HO.o.set hlt _ _).set hlt _ _).set hlt _ _).set hlt _ _).low (by rw [HSZ.o]; exact Nat.le_refl _)⟩

open Go.RowKit Go.Mk

theorem Tryz.infoBs:(Tryz.prog.info? 78).map (fun i=>(i.zero,i.size,i.bytes))=some (some (.slice none 0 0),1,24):=by kernel_rfl

theorem zc4 {w:World} {base e size n:Nat} {v:Value} {xs:List Value} (h:w.ownsRow base e size v n xs):∃ ao cap,v=.slice ao n cap:=zao (Row.of_owns h)

theorem zgT (gen:Int) (bl:List (List UInt8)) (busy:Bool) (nc nt nk na no nn:Int) (pl:List (Int×Int)) (se sn:Int) (box plan bv:Value) (b:List UInt8) (w:World) (A:Nat->Prop) (hb:Rd A (fun w=>zat 1 zck w box bl) w) (hp:Rd A (fun w=>zaw w plan pl) w) (hv:Rd A (fun w=>zba w bv b) w) (hr:bl.length<=1000) :
  zaJ Tryz.prog 26 #[.agg #[I gen,box,.bool busy,I nc,I nt,I nk,I na,I no,I nn,plan,I se,I sn],bv] w A (fun r w'=>zge zhq (zbY ⟨gen,bl,busy,⟨nc,nt,⟨nk,na,no,nn⟩⟩,pl,⟨se,sn⟩⟩ b).1 (zbY ⟨gen,bl,busy,⟨nc,nt,⟨nk,na,no,nn⟩⟩,pl,⟨se,sn⟩⟩ b).2 r w'):=by
 unfold zaJ;obtain ⟨ba,bc,rfl⟩:=zag hb.o;obtain ⟨pa,pc,rfl⟩:=zao hp.o;obtain ⟨va,vc,rfl⟩:=zao hv.o;have HB:=zhd hb;have HP:=zhd hp;have HV:=zhd hv;clear hb hp hv;have e0:Ext w ((w.alloc (.cells #[I gen,(.slice ba bl.length bc),.bool busy,I nc,I nt,I nk,I na,I no,I nn,(.slice pa pl.length pc),I se,I sn] 42)).alloc (.cells zS 42)):=((Ext.refl w).alloc _).alloc _;by_cases h3:3<=bl.length
 case pos =>
  have hX:zbY ⟨gen,bl,busy,⟨nc,nt,⟨nk,na,no,nn⟩⟩,pl,⟨se,sn⟩⟩ b=(⟨gen,bl,busy,⟨nc,nt,⟨nk,na,no,nn⟩⟩,pl,⟨se,sn⟩⟩,9):=if_pos h3;rw [hX];have hl1:(3:Int)<=(bl.length:Int):=by omega
  have hl2:¬ ((bl.length:Int) < 3):=by omega
  clear hX;go_enter Tryz.func26,Tryz.ntmps26
  go_wp2
  refine bodyPost_ret (by simp [results,Tryz.results26,go_sem]; rfl) rfl ?_;exact ⟨_,rfl,((Ext.refl w).alloc _).alloc _,((zbO (zdI (v:=⟨gen,bl,busy,⟨nc,nt,⟨nk,na,no,nn⟩⟩,pl,⟨se,sn⟩⟩) HB.o HP.o)).ext (((Ext.refl w).alloc _).alloc _)).widen (fun _ _ h=>.inl h)⟩
 have hX:zbY ⟨gen,bl,busy,⟨nc,nt,⟨nk,na,no,nn⟩⟩,pl,⟨se,sn⟩⟩ b=(⟨gen,bl++[b],busy,⟨nc,nt,⟨nk,na,no,nn⟩⟩,pl,⟨se,sn⟩⟩,0):=if_neg h3;rw [hX];clear hX;have hl1:¬ ((3:Int)<=(bl.length:Int)):=by omega
 have hl2:(bl.length:Int) < 3:=by omega
 have HR:=zhd hr;clear hr h3;obtain ⟨i0,hi,hz0,hz1,hz2⟩:=info_parts Tryz.infoBs;have HI:=zhd hi;clear hi;obtain ⟨css,hcs,hrow⟩:=zmg (by decide) HB.o;have HCS:=zhd hcs;have HROW:=zhd hrow;clear hcs hrow;have HBL:=zhd (fun wx (h:Ext ((w.alloc (.cells #[I gen,(.slice ba bl.length bc),.bool busy,I nc,I nt,I nk,I na,I no,I nn,(.slice pa pl.length pc),I se,I sn] 42)).alloc (.cells zS 42)) wx)=>And.intro (zdq h) (zcI h));have hsz:((w.alloc (.cells #[I gen,(.slice ba bl.length bc),.bool busy,I nc,I nt,I nk,I na,I no,I nn,(.slice pa pl.length pc),I se,I sn] 42)).alloc (.cells zS 42)).heap.size=w.heap.size+2:=by simp
 have HSZ:=zhd hsz;clear hsz;obtain ⟨B,hB⟩:=zds A w.heap.size 2;have HK:=zhd hB;clear hB;have HONES:=zhd (HCS.o.o.ones zrc);go_enter Tryz.func26,Tryz.ntmps26
 go_wp2_with (at_builtin; refine zbv ?_)
 unfold Hid;generalize hw0:(w.alloc (.cells #[I gen,(.slice ba bl.length bc),.bool busy,I nc,I nt,I nk,I na,I no,I nn,(.slice pa pl.length pc),I se,I sn] 42)).alloc (.cells zS 42)=w0 at *;clear hw0;have hz:=HSZ.o;have hem:=World.ownsRow_lit (base:=w0.heap.size) (e:=78) (size:=1) w0 #[] 0 (Nat.le_refl _) (by decide) rfl;rw [hz] at hem;refine zay _ rfl (.tmp 11) (.tmp 13) 33 rfl (w.heap.size+2) 78 i0 (.slice none 0 0) 1 24 zm0 HI.o hz0 hz1 hz2 rfl (by decide) (.slice (some ⟨w.heap.size+2,0,none⟩) 0 0) 0 [] rfl hem _ rfl bl.length css.flatten (HROW.o.ext (e0.alloc _)) HONES.o (by have:=HR.o; omega) (by decide) (by simp; omega) ?_;intro v1 w1 ho1 hg1;simp only [Nat.zero_add,List.nil_append] at ho1;have e1:Ext w0 w1:=((Ext.refl w0).alloc (.cells #[] 78)).grown hg1 (fun k hk=>by (have h5:w.heap.size+2=k:=by simpa [Value.ownBlock] using hk); omega);clear hem hg1;go_wp2_with (at_builtin; refine zbv ?_)
 unfold Hid;have hone:Row (w1.alloc (.cells #[.slice va b.length vc] 78)) 1 (.slice (some ⟨w1.heap.size,0,none⟩) 1 1) 1 [.slice va b.length vc]:=Row.of_owns (World.ownsRow_lit (base:=0) (e:=78) (size:=1) w1 #[.slice va b.length vc] 1 (Nat.zero_le _) (by decide) rfl);have hs1:=e1.size;refine zay _ rfl (.tmp 14) (.tmp 16) 33 rfl (w.heap.size+2) 78 i0 (.slice none 0 0) 1 24 zm0 HI.o hz0 hz1 hz2 rfl (by decide) v1 bl.length css.flatten rfl (zak ho1 ((Ext.refl w1).alloc _)) _ rfl 1 _ hone (fun u hu=>by simp at hu; rw [hu]; rfl) (by have:=HR.o; omega) (by decide) (by simp; omega) ?_;intro v2 w2 ho2 hg2;have e2:Ext w0 w2:=(e1.alloc (.cells #[.slice va b.length vc] 78)).grown hg2 (fun k hk=>by have:=(ho1.lt k hk).1; omega);clear hone hg2 ho1 hs1;have ho2:w2.ownsRow (w.heap.size+2) 78 1 v2 (bl.length+1) (css++[[Value.slice va b.length vc]]).flatten:=by simpa using ho2
 have k1:Rd B (fun w=>zat 1 zck w v2 (bl++[b])) w2:=by
  refine zfj (fun k h _=>HK.o.2.1 k h) (Rd.snoc ((HCS.o.widen HK.o.1).ext (e0.trans e2)) ?_ rfl) ho2 (by decide);exact ((HV.o.widen HK.o.1).ext (e0.trans e2)).imp fun w h=>⟨_,rfl,h⟩
 obtain ⟨qa,qc,hqs⟩:=zc4 ho2;subst hqs;have K1:=zhd k1;clear ho2 k1;obtain ⟨b0,b1⟩:=HBL.o w2 e2;have x0:=zd4 b0;have f0:=zfy b0;have y0:=zd4 b1;have g0:=zfy b1;go_wp2
 clear x0 f0 y0 g0;have n0:¬ B w.heap.size:=HK.o.2.2.1 _ (Nat.le_refl _) (by omega);have n1:¬ B (w.heap.size+1):=HK.o.2.2.1 _ (by omega) (by omega);have b2:=znA (zcE (i:=1) (x:=(.slice qa (bl.length+1) qc)) b1 (Nat.succ_ne_self w.heap.size)) [I gen,(.slice qa (bl.length+1) qc),.bool busy,I nc,I nt,I nk,I na,I no,I nn,(.slice pa pl.length pc),I se,I sn] rfl;have ew:=Ext.put (b:=w.heap.size+1) (by omega) [I gen,(.slice qa (bl.length+1) qc),.bool busy,I nc,I nt,I nk,I na,I no,I nn,(.slice pa pl.length pc),I se,I sn] ((e0.trans e2).setCell (p:=⟨w.heap.size,1,none⟩) (Nat.le_refl _) (.slice qa (bl.length+1) qc)) 0;have r1:=Rd.put n1 [I gen,(.slice qa (bl.length+1) qc),.bool busy,I nc,I nt,I nk,I na,I no,I nn,(.slice pa pl.length pc),I se,I sn] (K1.o.set n0 1 (.slice qa (bl.length+1) qc)) 0;have rHP:=Rd.put n1 [I gen,(.slice qa (bl.length+1) qc),.bool busy,I nc,I nt,I nk,I na,I no,I nn,(.slice pa pl.length pc),I se,I sn] (((HP.o.widen HK.o.1).ext (e0.trans e2)).set n0 1 (.slice qa (bl.length+1) qc)) 0;generalize hwz:((((((((((((w2.setCell ⟨w.heap.size,1,none⟩ (.slice qa (bl.length+1) qc)).setCell ⟨w.heap.size+1,0,none⟩ (I gen)).setCell ⟨w.heap.size+1,1,none⟩ (.slice qa (bl.length+1) qc)).setCell ⟨w.heap.size+1,2,none⟩ (.bool busy)).setCell ⟨w.heap.size+1,3,none⟩ (I nc)).setCell ⟨w.heap.size+1,4,none⟩ (I nt)).setCell ⟨w.heap.size+1,5,none⟩ (I nk)).setCell ⟨w.heap.size+1,6,none⟩ (I na)).setCell ⟨w.heap.size+1,7,none⟩ (I no)).setCell ⟨w.heap.size+1,8,none⟩ (I nn)).setCell ⟨w.heap.size+1,9,none⟩ (.slice pa pl.length pc)).setCell ⟨w.heap.size+1,10,none⟩ (I se)).setCell ⟨w.heap.size+1,11,none⟩ (I sn)=wz;replace hwz:zfi (w2.setCell ⟨w.heap.size,1,none⟩ (.slice qa (bl.length+1) qc)) (w.heap.size+1) 0 [I gen,(.slice qa (bl.length+1) qc),.bool busy,I nc,I nt,I nk,I na,I no,I nn,(.slice pa pl.length pc),I se,I sn]=wz:=hwz;rw [hwz] at b2 ew r1 rHP;have q0:=zd4 b2;clear hwz;refine bodyPost_ret (by simp [results,Tryz.results26,go_sem,q0]; rfl) rfl ?_;exact ⟨_,rfl,ew,Rd.widen (A:=B) (zbO (zdI (v:=⟨gen,bl++[b],busy,⟨nc,nt,⟨nk,na,no,nn⟩⟩,pl,⟨se,sn⟩⟩) r1 rHP)) (fun k _ h=>HK.o.2.2.2 k h)⟩

theorem zgX (cl:List Cl) (at_:Int) (sent:Bool) (gen:Int) (bl:List (List UInt8)) (gl:List Rp) (calls box got bv:Value) (b:List UInt8) (w:World) (A:Nat->Prop) (hc:Rd A (fun w=>zat 4 zdy w calls cl) w) (hb:Rd A (fun w=>zat 1 zck w box bl) w) (hg:Rd A (fun w=>zat 2 zdU w got gl) w) (hv:Rd A (fun w=>zba w bv b) w) (hr:bl.length<=1000) :
  zaJ Tryz.prog 29 #[.agg #[calls,I at_,.bool sent,I gen,box,got],bv] w A (fun r w'=>Agg zcA (zcf ⟨cl,at_,sent,gen,bl,gl⟩ b) r w'):=by
 unfold zaJ;obtain ⟨ba,bc,rfl⟩:=zag hb.o;obtain ⟨ca,cc,rfl⟩:=zag hc.o;obtain ⟨ga,gc,rfl⟩:=zag hg.o;obtain ⟨va,vc,rfl⟩:=zao hv.o;have HC:=zhd hc;have HB:=zhd hb;have HG:=zhd hg;have HV:=zhd hv;clear hc hb hg hv;have e0:Ext w ((w.alloc (.cells #[(.slice ca cl.length cc),I at_,.bool sent,I gen,(.slice ba bl.length bc),(.slice ga gl.length gc)] 56)).alloc (.cells zC 56)):=((Ext.refl w).alloc _).alloc _;by_cases h3:3<=bl.length
 case pos =>
  have hX:zcf ⟨cl,at_,sent,gen,bl,gl⟩ b=⟨cl,at_,sent,gen,bl,gl⟩:=if_neg (by show ¬ bl.length < 3; omega);rw [hX];have hl1:(3:Int)<=(bl.length:Int):=by omega
  have hl2:¬ ((bl.length:Int) < 3):=by omega
  clear hX;go_enter Tryz.func29,Tryz.ntmps29
  go_wp2
  refine bodyPost_ret (by simp [results,Tryz.results29,go_sem]; rfl) rfl ?_;exact ⟨_,rfl,((Ext.refl w).alloc _).alloc _,((zb1 (zcO (c:=⟨cl,at_,sent,gen,bl,gl⟩) HC.o HB.o HG.o)).ext (((Ext.refl w).alloc _).alloc _)).widen (fun _ _ h=>.inl h)⟩
 have hX:zcf ⟨cl,at_,sent,gen,bl,gl⟩ b=⟨cl,at_,sent,gen,bl++[b],gl⟩:=if_pos (by show bl.length < 3; omega);rw [hX];clear hX;have hl1:¬ ((3:Int)<=(bl.length:Int)):=by omega
 have hl2:(bl.length:Int) < 3:=by omega
 have HR:=zhd hr;clear hr h3;obtain ⟨i0,hi,hz0,hz1,hz2⟩:=info_parts Tryz.infoBs;have HI:=zhd hi;clear hi;obtain ⟨css,hcs,hrow⟩:=zmg (by decide) HB.o;have HCS:=zhd hcs;have HROW:=zhd hrow;clear hcs hrow;have HBL:=zhd (fun wx (h:Ext ((w.alloc (.cells #[(.slice ca cl.length cc),I at_,.bool sent,I gen,(.slice ba bl.length bc),(.slice ga gl.length gc)] 56)).alloc (.cells zC 56)) wx)=>And.intro (zdq h) (zcI h));have hsz:((w.alloc (.cells #[(.slice ca cl.length cc),I at_,.bool sent,I gen,(.slice ba bl.length bc),(.slice ga gl.length gc)] 56)).alloc (.cells zC 56)).heap.size=w.heap.size+2:=by simp
 have HSZ:=zhd hsz;clear hsz;obtain ⟨B,hB⟩:=zds A w.heap.size 2;have HK:=zhd hB;clear hB;have HONES:=zhd (HCS.o.o.ones zrc);go_enter Tryz.func29,Tryz.ntmps29
 go_wp2_with (at_builtin; refine zbv ?_)
 unfold Hid;generalize hw0:(w.alloc (.cells #[(.slice ca cl.length cc),I at_,.bool sent,I gen,(.slice ba bl.length bc),(.slice ga gl.length gc)] 56)).alloc (.cells zC 56)=w0 at *;clear hw0;have hz:=HSZ.o;have hem:=World.ownsRow_lit (base:=w0.heap.size) (e:=78) (size:=1) w0 #[] 0 (Nat.le_refl _) (by decide) rfl;rw [hz] at hem;refine zay _ rfl (.tmp 9) (.tmp 11) 33 rfl (w.heap.size+2) 78 i0 (.slice none 0 0) 1 24 zm0 HI.o hz0 hz1 hz2 rfl (by decide) (.slice (some ⟨w.heap.size+2,0,none⟩) 0 0) 0 [] rfl hem _ rfl bl.length css.flatten (HROW.o.ext (e0.alloc _)) HONES.o (by have:=HR.o; omega) (by decide) (by simp; omega) ?_;intro v1 w1 ho1 hg1;simp only [Nat.zero_add,List.nil_append] at ho1;have e1:Ext w0 w1:=((Ext.refl w0).alloc (.cells #[] 78)).grown hg1 (fun k hk=>by (have h5:w.heap.size+2=k:=by simpa [Value.ownBlock] using hk); omega);clear hem hg1;go_wp2_with (at_builtin; refine zbv ?_)
 unfold Hid;have hone:Row (w1.alloc (.cells #[.slice va b.length vc] 78)) 1 (.slice (some ⟨w1.heap.size,0,none⟩) 1 1) 1 [.slice va b.length vc]:=Row.of_owns (World.ownsRow_lit (base:=0) (e:=78) (size:=1) w1 #[.slice va b.length vc] 1 (Nat.zero_le _) (by decide) rfl);have hs1:=e1.size;refine zay _ rfl (.tmp 12) (.tmp 14) 33 rfl (w.heap.size+2) 78 i0 (.slice none 0 0) 1 24 zm0 HI.o hz0 hz1 hz2 rfl (by decide) v1 bl.length css.flatten rfl (zak ho1 ((Ext.refl w1).alloc _)) _ rfl 1 _ hone (fun u hu=>by simp at hu; rw [hu]; rfl) (by have:=HR.o; omega) (by decide) (by simp; omega) ?_;intro v2 w2 ho2 hg2;have e2:Ext w0 w2:=(e1.alloc (.cells #[.slice va b.length vc] 78)).grown hg2 (fun k hk=>by have:=(ho1.lt k hk).1; omega);clear hone hg2 ho1 hs1;have ho2:w2.ownsRow (w.heap.size+2) 78 1 v2 (bl.length+1) (css++[[Value.slice va b.length vc]]).flatten:=by simpa using ho2
 have k1:Rd B (fun w=>zat 1 zck w v2 (bl++[b])) w2:=by
  refine zfj (fun k h _=>HK.o.2.1 k h) (Rd.snoc ((HCS.o.widen HK.o.1).ext (e0.trans e2)) ?_ rfl) ho2 (by decide);exact ((HV.o.widen HK.o.1).ext (e0.trans e2)).imp fun w h=>⟨_,rfl,h⟩
 obtain ⟨qa,qc,hqs⟩:=zc4 ho2;subst hqs;have K1:=zhd k1;clear ho2 k1;obtain ⟨b0,b1⟩:=HBL.o w2 e2;have x0:=zd4 b0;have f0:=zfy b0;have y0:=zd4 b1;have g0:=zfy b1;go_wp2
 clear x0 f0 y0 g0;have n0:¬ B w.heap.size:=HK.o.2.2.1 _ (Nat.le_refl _) (by omega);have n1:¬ B (w.heap.size+1):=HK.o.2.2.1 _ (by omega) (by omega);have b2:=znA (zcE (i:=4) (x:=(.slice qa (bl.length+1) qc)) b1 (Nat.succ_ne_self w.heap.size)) [(.slice ca cl.length cc),I at_,.bool sent,I gen,(.slice qa (bl.length+1) qc),(.slice ga gl.length gc)] rfl;have ew:=Ext.put (b:=w.heap.size+1) (by omega) [(.slice ca cl.length cc),I at_,.bool sent,I gen,(.slice qa (bl.length+1) qc),(.slice ga gl.length gc)] ((e0.trans e2).setCell (p:=⟨w.heap.size,4,none⟩) (Nat.le_refl _) (.slice qa (bl.length+1) qc)) 0;have r1:=Rd.put n1 [(.slice ca cl.length cc),I at_,.bool sent,I gen,(.slice qa (bl.length+1) qc),(.slice ga gl.length gc)] (K1.o.set n0 4 (.slice qa (bl.length+1) qc)) 0;have rHC:=Rd.put n1 [(.slice ca cl.length cc),I at_,.bool sent,I gen,(.slice qa (bl.length+1) qc),(.slice ga gl.length gc)] (((HC.o.widen HK.o.1).ext (e0.trans e2)).set n0 4 (.slice qa (bl.length+1) qc)) 0;have rHG:=Rd.put n1 [(.slice ca cl.length cc),I at_,.bool sent,I gen,(.slice qa (bl.length+1) qc),(.slice ga gl.length gc)] (((HG.o.widen HK.o.1).ext (e0.trans e2)).set n0 4 (.slice qa (bl.length+1) qc)) 0;generalize hwz:((((((w2.setCell ⟨w.heap.size,4,none⟩ (.slice qa (bl.length+1) qc)).setCell ⟨w.heap.size+1,0,none⟩ (.slice ca cl.length cc)).setCell ⟨w.heap.size+1,1,none⟩ (I at_)).setCell ⟨w.heap.size+1,2,none⟩ (.bool sent)).setCell ⟨w.heap.size+1,3,none⟩ (I gen)).setCell ⟨w.heap.size+1,4,none⟩ (.slice qa (bl.length+1) qc)).setCell ⟨w.heap.size+1,5,none⟩ (.slice ga gl.length gc)=wz;replace hwz:zfi (w2.setCell ⟨w.heap.size,4,none⟩ (.slice qa (bl.length+1) qc)) (w.heap.size+1) 0 [(.slice ca cl.length cc),I at_,.bool sent,I gen,(.slice qa (bl.length+1) qc),(.slice ga gl.length gc)]=wz:=hwz;rw [hwz] at b2 ew r1 rHC rHG;have q0:=zd4 b2;clear hwz;refine bodyPost_ret (by simp [results,Tryz.results29,go_sem,q0]; rfl) rfl ?_;exact ⟨_,rfl,ew,Rd.widen (A:=B) (zb1 (zcO (c:=⟨cl,at_,sent,gen,bl++[b],gl⟩) rHC r1 rHG)) (fun k _ h=>HK.o.2.2.2 k h)⟩

open Go.RowKit Go.Mk

theorem zow {w:World} {v:Value} {l:List (List UInt8)} (h:zat 1 zck w v l):∃ ao cap,v=.slice ao l.length cap/\l.length<=cap/\cap<=maxLen /\
  ∀ k x,l[k]?=some x->∃ b off bv,ao=some ⟨b,off,none⟩/\w.cell? ⟨b,off+k,none⟩=some bv/\zba w bv x:=by
 obtain ⟨ao,cap,h1,h2,h3,-,h5⟩:=h.form (by decide)
 refine ⟨ao,cap,h1,h2,h3,fun k x hx=>?_⟩
 obtain ⟨b,off,c,e,-,⟨bv,rfl,hb⟩,hcell⟩:=h5 k x hx
 refine ⟨b,off,bv,e,?_,hb⟩
 have:=hcell 0 bv rfl
 rwa [Nat.mul_one,Nat.add_zero] at this

theorem ziZ (v:Value) (xs:List UInt8) (w:World) (hv:zba w v xs) (hr:xs.length<=140737488355328) :
  zaV Tryz.prog 70 #[v] w fun r w'=>w'.ownsRow w.heap.size 5 1 r xs.length (xs.map U):=by
 unfold zaV;obtain ⟨i0,hi,hz0,hz1,hz2⟩:=info_parts Tryz.infoByte;have hsz:(Tryz.prog.info? 5).map (·.size)=some 1:=by rw [hi]; simp [hz1]
 have hrow:Row w 1 v xs.length (xs.map U):=hv;clear hv;obtain ⟨hlen,ao,cap,rfl,h1,h2,h0,h3⟩:=hrow;unfold maxLen at h2;go_enter Tryz.func70,Tryz.ntmps70
 go_wp2_with (at_make; refine wpList_make_full _ rfl _ _ 78 rfl w.heap.size 5 i0 (.int .u8 0) 1 zjf hi hz0 hz1 .i64 .i64 _ _ xs.length rfl rfl rfl rfl (by rw [hz2]; omega) (by unfold maxLen; omega) (Nat.le_refl _) ?_; intro w1 hown hgrow)
 have he1:Ext w w1:=(Ext.refl w).grown hgrow (fun k hk=>by cases hk);obtain ⟨w2,hrun,hown2,hgrow2⟩:=zb2 (P:=Tryz.prog) w1 78 3 5 1 zjf hsz w.heap.size w.heap.size xs.length _ (xs.map U) _ hown (Row.ext ⟨hlen,ao,cap,rfl,h1,h2,h0,h3⟩ he1) (zlP xs);have he2:Ext w w2:=he1.grown hgrow2 (fun k hk=>by cases hk; exact Nat.le_refl _);rw [hrun];clear hrun hown hgrow hgrow2 he1 h3;go_wp2
 go_ret
 exact ⟨_,rfl,he2,hown2⟩

theorem zms (v:Value) (xs:List (Int×Int)) (w:World) (hv:zaw w v xs) (hr:xs.length * 16<=140737488355328) :
  zaV Tryz.prog 58 #[v] w fun r w'=>w'.ownsRow w.heap.size 73 2 r xs.length (zaz xs):=by
 unfold zaV;obtain ⟨i0,hi,hz0,hz1,hz2⟩:=info_parts Tryz.infoWrite;have hsz:(Tryz.prog.info? 73).map (·.size)=some 2:=by rw [hi]; simp [hz1]
 have hrow:Row w 2 v xs.length (zaz xs):=hv;clear hv;obtain ⟨hlen,ao,cap,rfl,h1,h2,h0,h3⟩:=hrow;unfold maxLen at h2;go_enter Tryz.func58,Tryz.ntmps58
 go_wp2_with (at_make; refine wpList_make_full _ rfl _ _ 28 rfl w.heap.size 73 i0 (.agg #[.int .i64 0,.int .i64 0]) 2 zfz hi hz0 hz1 .i64 .i64 _ _ xs.length rfl rfl rfl rfl (by rw [hz2]; omega) (by unfold maxLen; omega) (Nat.le_refl _) ?_; intro w1 hown hgrow)
 have he1:Ext w w1:=(Ext.refl w).grown hgrow (fun k hk=>by cases hk);obtain ⟨w2,hrun,hown2,hgrow2⟩:=zb2 (P:=Tryz.prog) w1 28 3 73 2 zfz hsz w.heap.size w.heap.size xs.length _ (zaz xs) _ hown (Row.ext ⟨hlen,ao,cap,rfl,h1,h2,h0,h3⟩ he1) (zbD xs);have he2:Ext w w2:=he1.grown hgrow2 (fun k hk=>by cases hk; exact Nat.le_refl _);rw [hrun];clear hrun hown hgrow hgrow2 he1 h3;go_wp2
 go_ret
 exact ⟨_,rfl,he2,hown2⟩

def zdh (base:Nat) (w:World) (u:Value) (bl:List (List UInt8)):Prop:=∃ evs:List Value,w.ownsRow base 78 1 u bl.length evs/\∀ (i:Nat) (b:List UInt8),bl[i]?=some b->∃ ev,evs[i]?=some ev/\w.ownsRow base 5 1 ev b.length (b.map U)

theorem ziV (v:Value) (bl:List (List UInt8)) (w:World) (hv:zat 1 zck w v bl) (h1:bl.length * 24<=140737488355328) (h2:∀ b ∈ bl,b.length<=140737488355328) :
  zaV Tryz.prog 57 #[v] w fun r w'=>zdh w.heap.size w' r bl/\∃ g,r=.slice (some ⟨g,0,none⟩) bl.length bl.length:=by
 unfold zaV;obtain ⟨i0,hi,hz0,hz1,hz2⟩:=info_parts Tryz.infoBs;obtain ⟨ao,cap,rfl,g1,g2,g3⟩:=zow hv;unfold maxLen at g2;have G3:=zhd g3;have H2:=zhd h2;clear hv g3 h2;go_enter Tryz.func57,Tryz.ntmps57
 go_wp2_with (at_make; refine wpList_make_full _ rfl _ _ 33 rfl w.heap.size 78 i0 (.slice none 0 0) 1 zm0 hi hz0 hz1 .i64 .i64 _ _ bl.length rfl rfl rfl rfl (by rw [hz2]; omega) (by unfold maxLen; omega) (Nat.le_refl _) ?_; intro w1 hown hgrow)
 have he1:Ext w w1:=(Ext.refl w).grown hgrow (fun k hk=>by cases hk);clear hgrow hi hz0 hz1 hz2;generalize hg:w.heap.size=g at *;have HG:=zhd hg;clear hg;have HO:=zhd hown;clear hown;go_wp2_with fail
 go_loopw [11] (fun i wr=>∃ (k:Nat) (evs:List Value),k<=bl.length/\i=I k/\wr.ownsRow g 78 1 (.slice (some ⟨g,0,none⟩) bl.length bl.length) bl.length evs/\(∀ (j:Nat) (b:List UInt8),j < k->bl[j]?=some b->∃ ev,evs[j]?=some ev/\wr.ownsRow g 5 1 ev b.length (b.map U))/\Ext w wr) (fun i _=>bl.length - (intOf i).toNat)
 case atStart=>exact ⟨0,_,Nat.zero_le _,rfl,HO.o,fun j b hj=>by omega,he1⟩
 case round =>
  obtain ⟨k,evs,hk,rfl,ho,hall,he⟩:=hrel;have HALL:=zhd hall;clear hall he1 HO;by_cases hlt:k < bl.length
  ·obtain ⟨x,hx⟩:∃ x,bl[k]?=some x:=⟨bl[k],List.getElem?_eq_getElem hlt⟩;obtain ⟨xb,xo,bv,rfl,hcell,hby⟩:=G3.o k x hx;have hxl:=H2.o x (List.mem_of_getElem? hx);have HX:=zhd hx;clear hx;replace hcell:=he.cell hcell;obtain ⟨ba,bc,rfl⟩:=zao hby;have HBY:=zhd (hby.ext he);clear hby;go_wp2_with fail
   refine (ziZ _ x wr HBY.o hxl).to fun r w2 e2 hr=>?_;obtain ⟨ra,rc,rfl⟩:=za3 hr;have hown2:=zak ho e2;have hle:evs.length=bl.length:=by have:=ho.1; simpa using this
   have c5:w2.cell? ⟨g,k,none⟩=some (evs[k]'(by omega)):=by
    have q:=(Row.of_owns hown2);obtain ⟨_,ao2,cap2,eq2,_,_,_,q5⟩:=q;obtain ⟨b3,o3,e3,q6⟩:=q5 k _ (List.getElem?_eq_getElem (by omega));simp only [Value.slice.injEq] at eq2;rw [<- eq2.1] at e3;simp only [Option.some.injEq,Addr.mk.injEq,and_true] at e3;obtain ⟨rfl,rfl⟩:=e3;simpa using q6
   have f5:w2.frozen? ⟨g,k,none⟩=false:=hown2.frozenAt _;have hr2:=zhd (zbg hr (b2:=g) (by have:=he.size; have:=HG.o; omega));have he2:=he.trans e2;have E2:=zhd e2;clear hcell ho e2 he hr;go_wp2
   go_roundw
   case rel =>
    have hst:=hown2.stored k (.slice ra x.length rc);refine ⟨k+1,_,by omega,by go_num,hst.1,fun j b hj hb=>?_,he2.setCell (by rw [HG.o]; exact Nat.le_refl _) _⟩;by_cases hjk:j=k
    ·subst hjk;have hb2:bl[j]?=some b:=hb;rw [HX.o] at hb2;cases hb2
     refine ⟨_,List.getElem?_set_self (by omega),?_⟩;exact hr2.o.kept hst.2 (zdR hr2.o hown2 (by decide))
    ·obtain ⟨ev,h3,h4⟩:=HALL.o j b (by omega) hb;refine ⟨ev,by rw [List.getElem?_set_ne (fun e=>hjk e.symm)]; exact h3,?_⟩;have h5:=zak h4 E2.o;exact h5.kept hst.2 (zdR h5 hown2 (by decide))
   case measure=>simp [intOf]; omega
  ·have hkl:k=bl.length:=by omega
   subst hkl;go_wp2
   go_ret
   exact ⟨_,rfl,he,⟨evs,by rw [HG.o]; exact ho,fun i b hb=>by rw [HG.o]; exact HALL.o i b (List.getElem?_eq_some_iff.1 hb).1 hb⟩,_,rfl⟩

theorem zc0 {base e size n:Nat} {v:Value} {cs:List Value} {w:World} {B:Nat->Prop} (h:w.ownsRow base e size v n cs) (hB:∀ g,v.ownBlock=some g->B g):Rd B (fun w=>Row w size v n cs) w:=fun w2 h2=>by
 refine Row.heap (Row.of_owns h) (fun j u b off hj ⟨m,cap,e⟩=>?_)
 rcases h.2 with ⟨rfl,_⟩ | ⟨g,cap',cur,rfl,hb,hg,_⟩
 ·cases e
 ·simp at e
  obtain ⟨⟨rfl,_⟩,_⟩:=e
  exact h2 g (hB g rfl) (Array.getElem?_eq_some_iff.1 hg).1
theorem zdh.rd {base:Nat} {w:World} {u:Value} {bl:List (List UInt8)} {B:Nat->Prop} (h:zdh base w u bl) (hB:∀ g,base<=g->(∀ cs t,w.heap[g]?=some (.cells cs t (0,0))->t=78∨t=5)->B g):Rd B (fun w=>zat 1 zck w u bl) w:=by
 obtain ⟨evs,h1,h2⟩:=h
 have hl:evs.length=bl.length:=by have:=h1.1; simpa using this
 have hin:∀ {e size n:Nat} {v:Value} {cs:List Value},w.ownsRow base e size v n cs->(e=78∨e=5)->∀ g,v.ownBlock=some g->B g:=fun {e size n v cs} ho he g hg=>by
  refine hB g (ho.lt g hg).1 (fun cs' t' hc=>?_)
  by_cases hne:e=t'
  ·rw [<- hne]; exact he
  ·exact absurd hg (za6 ho hc hne)
 have r1:=zc0 h1 (hin h1 (.inl rfl))
 have r2:Rd B (fun w=>∀ (i:Nat) (b:List UInt8) (ev:Value),bl[i]?=some b->evs[i]?=some ev->zba w ev b) w:=fun w2 hk i b ev hb hev=>by
  obtain ⟨ev',h3,h4⟩:=h2 i b hb
  rw [hev] at h3
  cases h3
  exact zc0 h4 (hin h4 (.inr rfl)) w2 hk
 refine (r1.and r2).imp fun w' hw=>⟨evs.map (fun e=>[e]),⟨by simp [hl],fun i c x hc hx=>?_⟩,?_⟩
 ·rw [List.getElem?_map] at hc
  cases he:evs[i]? with
  | none=>rw [he] at hc; cases hc
  | some ev =>
   rw [he] at hc
   simp at hc
   subst hc
   exact ⟨rfl,ev,rfl,hw.2 i x ev hx he⟩
 ·have hf:∀ l:List Value,(l.map fun e=>[e]).flatten=l:=fun l=>by
   induction l with
   | nil=>rfl
   | cons a l ih=>rw [List.map_cons,List.flatten_cons,ih]; rfl
  rw [hf]
  exact hw.1
theorem zdh.ext {base:Nat} {w w':World} {u:Value} {bl:List (List UInt8)} (h:zdh base w u bl) (he:Ext w w'):zdh base w' u bl:=by
 obtain ⟨evs,h1,h2⟩:=h
 refine ⟨evs,zak h1 he,fun i b hb=>?_⟩
 obtain ⟨ev,h3,h4⟩:=h2 i b hb
 exact ⟨ev,h3,zak h4 he⟩
theorem zdh.low {base b2:Nat} {w:World} {u:Value} {bl:List (List UInt8)} (h:zdh base w u bl) (hle:b2<=base):zdh b2 w u bl:=by
 obtain ⟨evs,h1,h2⟩:=h
 refine ⟨evs,zbg h1 hle,fun i b hb=>?_⟩
 obtain ⟨ev,h3,h4⟩:=h2 i b hb
 exact ⟨ev,h3,zbg h4 hle⟩
theorem zdh.kept {base:Nat} {w w':World} {u:Value} {bl:List (List UInt8)} (h:zdh base w u bl) {b:Nat} (hg:w.grownBy w' (some b)) {cs:Array Value} {t:TypeId} (hb:w.heap[b]?=some (.cells cs t (0,0))) (hne:(78:Nat)≠t) (hne2:(5:Nat)≠t):zdh base w' u bl:=by
 obtain ⟨evs,h1,h2⟩:=h
 refine ⟨evs,h1.kept hg (.inr (za6 h1 hb hne)),fun i b hb'=>?_⟩
 obtain ⟨ev,h3,h4⟩:=h2 i b hb'
 exact ⟨ev,h3,h4.kept hg (.inr (za6 h4 hb hne2))⟩

end Go.Proofs.YtdmipnnfoolelagGreat

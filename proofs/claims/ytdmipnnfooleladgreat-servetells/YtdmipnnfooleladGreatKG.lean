/- Texts of the proof, merged: S7 N1 V1. -/
import Derived.Test.YtdmipnnfooleladGreatKF
import Derived.Test.YtdmipnnfooleladGreatKB
import Derived.Test.YtdmipnnfooleladGreatKC
import Derived.Test.YtdmipnnfooleladGreatKE

namespace Go.Proofs.YtdmipnnfooleladGreat
open Go.RowKit Go.Mk
set_option maxRecDepth 100000

set_option maxHeartbeats 400000 in
theorem own_ints (v : Value) (xs : List Int) (w : World) (hv : Ints w v xs) (hr : xs.length * 8 ≤ 140737488355328) :
  Gives Tryz.prog 50 #[v] w fun r w'=>w'.ownsRow w.heap.size 3 1 r xs.length (xs.map I):=by
 unfold Gives
 obtain ⟨i0,hi,hz0,hz1,hz2⟩:=info_parts Tryz.infoInt
 have hsz : (Tryz.prog.info? 3).map (·.size) = some 1:=by rw [hi]; simp [hz1]
 have hrow : Row w 1 v xs.length (xs.map I):=hv
 clear hv
 obtain ⟨hlen,ao,cap,rfl,h1,h2,h0,h3⟩:=hrow
 unfold maxLen at h2
 go_enter Tryz.func50,Tryz.ntmps50
 go_wp2_with (at_make; refine wpList_make_full _ rfl _ _ 26 rfl w.heap.size 3 i0 (.int .i64 0) 1 Tryz.underlying26 hi hz0 hz1 .i64 .i64 _ _ xs.length rfl rfl rfl rfl (by rw [hz2]; omega) (by unfold maxLen; omega) (Nat.le_refl _) ?_; intro w1 hown hgrow)
 have he1 : Ext w w1:=(Ext.refl w).grown hgrow (fun k hk=>by cases hk)
 obtain ⟨w2,hrun,hown2,hgrow2⟩:=run_copy_sized (P:=Tryz.prog) w1 26 3 3 1 Tryz.underlying26 hsz w.heap.size w.heap.size xs.length _ (xs.map I) _ hown (Row.ext ⟨hlen,ao,cap,rfl,h1,h2,h0,h3⟩ he1) (mapI_one xs)
 have he2 : Ext w w2:=he1.grown hgrow2 (fun k hk=>by cases hk; exact Nat.le_refl _)
 rw [hrun]
 clear hrun hown hgrow hgrow2 he1 h3
 go_wp2
 go_ret
 exact ⟨_,rfl,he2,hown2⟩

set_option maxHeartbeats 400000 in
theorem own_writes (v : Value) (xs : List (Int × Int)) (w : World) (hv : Writes w v xs) (hr : xs.length * 16 ≤ 140737488355328) :
  Gives Tryz.prog 51 #[v] w fun r w'=>w'.ownsRow w.heap.size 79 2 r xs.length (cells2 xs):=by
 unfold Gives
 obtain ⟨i0,hi,hz0,hz1,hz2⟩:=info_parts Tryz.infoWrite
 have hsz : (Tryz.prog.info? 79).map (·.size) = some 2:=by rw [hi]; simp [hz1]
 have hrow : Row w 2 v xs.length (cells2 xs):=hv
 clear hv
 obtain ⟨hlen,ao,cap,rfl,h1,h2,h0,h3⟩:=hrow
 unfold maxLen at h2
 go_enter Tryz.func51,Tryz.ntmps51
 go_wp2_with (at_make; refine wpList_make_full _ rfl _ _ 27 rfl w.heap.size 79 i0 (.agg #[.int .i64 0,.int .i64 0]) 2 Tryz.underlying27 hi hz0 hz1 .i64 .i64 _ _ xs.length rfl rfl rfl rfl (by rw [hz2]; omega) (by unfold maxLen; omega) (Nat.le_refl _) ?_; intro w1 hown hgrow)
 have he1 : Ext w w1:=(Ext.refl w).grown hgrow (fun k hk=>by cases hk)
 obtain ⟨w2,hrun,hown2,hgrow2⟩:=run_copy_sized (P:=Tryz.prog) w1 27 3 79 2 Tryz.underlying27 hsz w.heap.size w.heap.size xs.length _ (cells2 xs) _ hown (Row.ext ⟨hlen,ao,cap,rfl,h1,h2,h0,h3⟩ he1) (cells2_one xs)
 have he2 : Ext w w2:=he1.grown hgrow2 (fun k hk=>by cases hk; exact Nat.le_refl _)
 rw [hrun]
 clear hrun hown hgrow hgrow2 he1 h3
 go_wp2
 go_ret
 exact ⟨_,rfl,he2,hown2⟩

set_option maxHeartbeats 400000 in
theorem own_anss (v : Value) (xs : List An) (w : World) (hv : RowOf 4 elAn w v xs) (hr : xs.length * 32 ≤ 140737488355328) :
  Gives Tryz.prog 52 #[v] w fun r w'=>w'.ownsRow w.heap.size 59 4 r xs.length (cellsA xs):=by
 unfold Gives
 obtain ⟨i0,hi,hz0,hz1,hz2⟩:=info_parts Tryz.infoAnswer
 have hsz : (Tryz.prog.info? 59).map (·.size) = some 4:=by rw [hi]; simp [hz1]
 have hrow : Row w 4 v xs.length (cellsA xs):=(rowOf_flat (f:=fun (x : An)=>[I x.client,I x.token,I x.reply.err,I x.reply.n]) (fun _=>rfl)).1 hv
 clear hv
 obtain ⟨hlen,ao,cap,rfl,h1,h2,h0,h3⟩:=hrow
 unfold maxLen at h2
 go_enter Tryz.func52,Tryz.ntmps52
 go_wp2_with (at_make; refine wpList_make_full _ rfl _ _ 28 rfl w.heap.size 59 i0 (.agg #[.int .i64 0,.int .i64 0,.int .i64 0,.int .i64 0]) 4 Tryz.underlying28 hi hz0 hz1 .i64 .i64 _ _ xs.length rfl rfl rfl rfl (by rw [hz2]; omega) (by unfold maxLen; omega) (Nat.le_refl _) ?_; intro w1 hown hgrow)
 have he1 : Ext w w1:=(Ext.refl w).grown hgrow (fun k hk=>by cases hk)
 obtain ⟨w2,hrun,hown2,hgrow2⟩:=run_copy_sized (P:=Tryz.prog) w1 28 3 59 4 Tryz.underlying28 hsz w.heap.size w.heap.size xs.length _ (cellsA xs) _ hown (Row.ext ⟨hlen,ao,cap,rfl,h1,h2,h0,h3⟩ he1) (cellsA_one xs)
 have he2 : Ext w w2:=he1.grown hgrow2 (fun k hk=>by cases hk; exact Nat.le_refl _)
 rw [hrun]
 clear hrun hown hgrow hgrow2 he1 h3
 go_wp2
 go_ret
 exact ⟨_,rfl,he2,hown2⟩

set_option maxHeartbeats 400000 in
theorem own_reqs (v : Value) (xs : List Rq) (w : World) (hv : RowOf 6 elRq w v xs) (hr : xs.length * 48 ≤ 140737488355328) :
  Gives Tryz.prog 53 #[v] w fun r w'=>w'.ownsRow w.heap.size 36 6 r xs.length (cells6 xs):=by
 unfold Gives
 obtain ⟨i0,hi,hz0,hz1,hz2⟩:=info_parts Tryz.infoRequest
 have hsz : (Tryz.prog.info? 36).map (·.size) = some 6:=by rw [hi]; simp [hz1]
 have hrow : Row w 6 v xs.length (cells6 xs):=rowOf_reqs.1 hv
 clear hv
 obtain ⟨hlen,ao,cap,rfl,h1,h2,h0,h3⟩:=hrow
 unfold maxLen at h2
 go_enter Tryz.func53,Tryz.ntmps53
 go_wp2_with (at_make; refine wpList_make_full _ rfl _ _ 29 rfl w.heap.size 36 i0 (.agg #[.int .i64 0,.int .i64 0,.int .i64 0,.int .i64 0,.int .i64 0,.int .i64 0]) 6 Tryz.underlying29 hi hz0 hz1 .i64 .i64 _ _ xs.length rfl rfl rfl rfl (by rw [hz2]; omega) (by unfold maxLen; omega) (Nat.le_refl _) ?_; intro w1 hown hgrow)
 have he1 : Ext w w1:=(Ext.refl w).grown hgrow (fun k hk=>by cases hk)
 obtain ⟨w2,hrun,hown2,hgrow2⟩:=run_copy_sized (P:=Tryz.prog) w1 29 3 36 6 Tryz.underlying29 hsz w.heap.size w.heap.size xs.length _ (cells6 xs) _ hown (Row.ext ⟨hlen,ao,cap,rfl,h1,h2,h0,h3⟩ he1) (cells6_one xs)
 have he2 : Ext w w2:=he1.grown hgrow2 (fun k hk=>by cases hk; exact Nat.le_refl _)
 rw [hrun]
 clear hrun hown hgrow hgrow2 he1 h3
 go_wp2
 go_ret
 exact ⟨_,rfl,he2,hown2⟩

/-- A store in memory of its own. -/
structure OwnSt (base : Nat) (w : World) (c u a p : Value) (s : St) : Prop where
 cells : w.ownsRow base 3 1 c s.cells.length (s.cells.map I)
 undo : w.ownsRow base 79 2 u s.undo.length (cells2 s.undo)
 answers : w.ownsRow base 59 4 a s.answers.length (cellsA s.answers)
 past : w.ownsRow base 36 6 p s.past.length (cells6 s.past)
theorem OwnSt.rd {base : Nat} {w : World} {c u a p : Value} {s : St} (h : OwnSt base w c u a p s) : Rd (fun k=>base ≤ k) (fun w=>elSt w [c,u,a,p] s) w :=
 st_rd (rd_ints h.cells) (rd_writes h.undo) (rd_anss h.answers) (rd_rqs h.past)
theorem OwnSt.ext {base : Nat} {w w' : World} {c u a p : Value} {s : St} (h : OwnSt base w c u a p s) (he : Ext w w') : OwnSt base w' c u a p s :=
 ⟨owns_ext h.cells he,owns_ext h.undo he,owns_ext h.answers he,owns_ext h.past he⟩
theorem owns_low_ne {w : World} {base e size n b : Nat} {v : Value} {xs : List Value} (h : w.ownsRow base e size v n xs) (hb : b < base) : v.ownBlock ≠ some b:=fun e=>by have:=(h.lt b e).1; omega
theorem OwnSt.set {base : Nat} {w : World} {c u a p : Value} {s : St} (h : OwnSt base w c u a p s) {b : Nat} (hb : b < base) (i : Nat) (x : Value) : OwnSt base (w.setCell ⟨b,i,none⟩ x) c u a p s :=
 ⟨owns_setCell h.cells (owns_low_ne h.cells hb) i x,owns_setCell h.undo (owns_low_ne h.undo hb) i x,owns_setCell h.answers (owns_low_ne h.answers hb) i x,owns_setCell h.past (owns_low_ne h.past hb) i x⟩
theorem OwnSt.low {b1 b2 : Nat} {w : World} {c u a p : Value} {s : St} (h : OwnSt b1 w c u a p s) (hle : b2 ≤ b1) : OwnSt b2 w c u a p s:=⟨owns_base h.cells hle,owns_base h.undo hle,owns_base h.answers hle,owns_base h.past hle⟩
theorem own_slice {w : World} {base e size n : Nat} {v : Value} {xs : List Value} (h : w.ownsRow base e size v n xs) : ∃ ao cap,v = .slice ao n cap:=row_slice (Row.of_owns h)

/-- How much a store may hold. -/
def Small (s : St) : Prop:=s.cells.length * 8 ≤ 100000000000000 ∧ s.undo.length * 16 ≤ 100000000000000 ∧ s.answers.length * 32 ≤ 100000000000000 ∧ s.past.length * 48 ≤ 100000000000000

set_option maxHeartbeats 1000000 in
theorem Own_any (c u a p : Value) (s : St) (w : World) (h : elSt w [c,u,a,p] s) (hs : Small s) :
  Gives Tryz.prog 29 #[.agg #[c,u,a,p]] w fun r w'=>∃ c' u' a' p',r = .agg #[c',u',a',p'] ∧ OwnSt (w.heap.size + 2) w' c' u' a' p' s:=by
 unfold Gives
 obtain ⟨h1,h2,h3,h4⟩:=st_iff.1 h
 clear h
 have HS:=Lib.hid hs
 clear hs
 unfold Small at HS
 obtain ⟨ca,cc,rfl⟩:=row_slice h1
 obtain ⟨ua,uc,rfl⟩:=row_slice h2
 obtain ⟨aa,ac,rfl⟩:=rowOf_slice h3
 obtain ⟨pa,pc,rfl⟩:=rowOf_slice h4
 generalize hc : Value.slice ca s.cells.length cc = c at *
 generalize hu : Value.slice ua s.undo.length uc = u at *
 generalize ha : Value.slice aa s.answers.length ac = a at *
 generalize hp : Value.slice pa s.past.length pc = p at *
 clear hc hu ha hp
 have e0 : Ext w ((w.alloc (.cells #[c,u,a,p] 31)).alloc (.cells #[.slice none 0 0,.slice none 0 0,.slice none 0 0,.slice none 0 0] 31)):=((Ext.refl w).alloc _).alloc _
 have HB:=Lib.hid (fun wx (h : Ext ((w.alloc (.cells #[c,u,a,p] 31)).alloc (.cells #[.slice none 0 0,.slice none 0 0,.slice none 0 0,.slice none 0 0] 31)) wx)=>And.intro (first_block h) (second_block h))
 have hsz : ((w.alloc (.cells #[c,u,a,p] 31)).alloc (.cells #[.slice none 0 0,.slice none 0 0,.slice none 0 0,.slice none 0 0] 31)).heap.size = w.heap.size + 2:=by simp
 have HSZ:=Lib.hid hsz
 clear hsz
 go_enter Tryz.func29,Tryz.ntmps29
 go_wp2_with fail
 generalize hw0 : (w.alloc (.cells #[c,u,a,p] 31)).alloc (.cells #[.slice none 0 0,.slice none 0 0,.slice none 0 0,.slice none 0 0] 31) = w0 at *
 clear hw0
 obtain ⟨b0,-⟩:=HB.out w0 (Ext.refl _)
 obtain ⟨x0,x1,x2,x3,-⟩:=box4 b0
 clear b0
 refine wp_region_mono_tail 12 [none,none,some (.inr (fun v wx=>wx.ownsRow w0.heap.size 3 1 v s.cells.length (s.cells.map I))),none,none,some (.inr (fun v wx=>wx.ownsRow w0.heap.size 79 2 v s.undo.length (cells2 s.undo))),none,none,some (.inr (fun v wx=>wx.ownsRow w0.heap.size 59 4 v s.answers.length (cellsA s.answers))),none,none,some (.inr (fun v wx=>wx.ownsRow w0.heap.size 36 6 v s.past.length (cells6 s.past)))] (by kernel_rfl) (by kernel_rfl) ?_ ?_
 ·exact ⟨trivial,trivial,monoOwns _ _ _ _ _,trivial,trivial,monoOwns _ _ _ _ _,trivial,trivial,monoOwns _ _ _ _ _,trivial,trivial,monoOwns _ _ _ _ _,trivial⟩
 iterate 1 (refine wpM_p (fun K hK=>?_); go_simp; first | refine hK _ ?_ | refine ⟨(fun h=>by cases h),hK _ ?_⟩; clear hK K)
 refine wpM_q (c) rfl (fun w' hw'=>by have q0:=hw'.cell x0; go_simp) ?_
 refine wpM_norm (fun K hK=>?_); go_simp; refine hK _ ?_; clear hK K
 refine wpM_l _ rfl (fun w' hw' hk=>?_) (fun v5=>?_)
 ·have hw2:=e0.trans hw'
  have hle:=hw'.size
  clear hk
  unfold makes
  go_simp
  exact ⟨Ext.refl _,(own_ints c s.cells w' (h1.ext hw2) (by have:=HS.out.1; omega)).mono fun _ _ _ h=>owns_base h hle⟩
 refine wpM_norm (fun K hK=>?_); go_simp; refine hK _ ?_; clear hK K
 iterate 1 (refine wpM_p (fun K hK=>?_); go_simp; first | refine hK _ ?_ | refine ⟨(fun h=>by cases h),hK _ ?_⟩; clear hK K)
 refine wpM_q (u) rfl (fun w' hw'=>by have q0:=hw'.cell x1; go_simp) ?_
 refine wpM_norm (fun K hK=>?_); go_simp; refine hK _ ?_; clear hK K
 refine wpM_l _ rfl (fun w' hw' hk=>?_) (fun v8=>?_)
 ·have hw2:=e0.trans hw'
  have hle:=hw'.size
  clear hk
  unfold makes
  go_simp
  exact ⟨Ext.refl _,(own_writes u s.undo w' (h2.ext hw2) (by have:=HS.out.2.1; omega)).mono fun _ _ _ h=>owns_base h hle⟩
 refine wpM_norm (fun K hK=>?_); go_simp; refine hK _ ?_; clear hK K
 iterate 1 (refine wpM_p (fun K hK=>?_); go_simp; first | refine hK _ ?_ | refine ⟨(fun h=>by cases h),hK _ ?_⟩; clear hK K)
 refine wpM_q (a) rfl (fun w' hw'=>by have q0:=hw'.cell x2; go_simp) ?_
 refine wpM_norm (fun K hK=>?_); go_simp; refine hK _ ?_; clear hK K
 refine wpM_l _ rfl (fun w' hw' hk=>?_) (fun v11=>?_)
 ·have hw2:=e0.trans hw'
  have hle:=hw'.size
  clear hk
  unfold makes
  go_simp
  exact ⟨Ext.refl _,(own_anss a s.answers w' (h3.ext monoAn hw2) (by have:=HS.out.2.2.1; omega)).mono fun _ _ _ h=>owns_base h hle⟩
 refine wpM_norm (fun K hK=>?_); go_simp; refine hK _ ?_; clear hK K
 iterate 1 (refine wpM_p (fun K hK=>?_); go_simp; first | refine hK _ ?_ | refine ⟨(fun h=>by cases h),hK _ ?_⟩; clear hK K)
 refine wpM_q (p) rfl (fun w' hw'=>by have q0:=hw'.cell x3; go_simp) ?_
 refine wpM_norm (fun K hK=>?_); go_simp; refine hK _ ?_; clear hK K
 refine wpM_l _ rfl (fun w' hw' hk=>?_) (fun v14=>?_)
 ·have hw2:=e0.trans hw'
  have hle:=hw'.size
  clear hk
  unfold makes
  go_simp
  exact ⟨Ext.refl _,(own_reqs p s.past w' (h4.ext monoRq hw2) (by have:=HS.out.2.2.2; omega)).mono fun _ _ _ h=>owns_base h hle⟩
 refine wpM_norm (fun K hK=>?_); go_simp; refine hK _ ?_; clear hK K
 refine wpM_nil ?_
 intro w1 e1 hX
 have o0 : w1.ownsRow w0.heap.size 3 1 v5 s.cells.length (s.cells.map I):=hX 5
 have o1 : w1.ownsRow w0.heap.size 79 2 v8 s.undo.length (cells2 s.undo):=hX 8
 have o2 : w1.ownsRow w0.heap.size 59 4 v11 s.answers.length (cellsA s.answers):=hX 11
 have o3 : w1.ownsRow w0.heap.size 36 6 v14 s.past.length (cells6 s.past):=hX 14
 clear hX x0 x1 x2 x3
 have ho : OwnSt w0.heap.size w1 v5 v8 v11 v14 s:=⟨o0,o1,o2,o3⟩
 obtain ⟨ka,kc,hk0⟩:=own_slice o0
 obtain ⟨la,lc,hk1⟩:=own_slice o1
 obtain ⟨ma,mc,hk2⟩:=own_slice o2
 obtain ⟨na,nc,hk3⟩:=own_slice o3
 subst hk0 hk1 hk2 hk3
 clear o0 o1 o2 o3
 have HO:=Lib.hid ho
 clear ho
 obtain ⟨-,b1⟩:=HB.out w1 e1
 obtain ⟨y0,y1,y2,y3,f0,f1,f2,f3⟩:=box4 b1
 go_wp2_with fail
 clear y0 y1 y2 y3 f0 f1 f2 f3
 have b2:=set4 b1 (.slice ka s.cells.length kc) (.slice la s.undo.length lc) (.slice ma s.answers.length mc) (.slice na s.past.length nc)
 obtain ⟨q0,q1,q2,q3,-⟩:=box4 b2
 have m2:=ext_set4 (e0.trans e1) (b:=w.heap.size + 1) (by omega) (.slice ka s.cells.length kc) (.slice la s.undo.length lc) (.slice ma s.answers.length mc) (.slice na s.past.length nc)
 have hlt : w.heap.size + 1 < w0.heap.size:=by rw [HSZ.out]; omega
 refine bodyPost_ret (by simp [results,Tryz.results29,go_sem,q0,q1,q2,q3]; rfl) rfl ?_
 exact ⟨_,rfl,m2,_,_,_,_,rfl,((((HO.out.set hlt _ _).set hlt _ _).set hlt _ _).set hlt _ _).low (by rw [HSZ.out]; exact Nat.le_refl _)⟩

end Go.Proofs.YtdmipnnfooleladGreat

namespace Go.Proofs.YtdmipnnfooleladGreat
open Go.RowKit Go.Mk
set_option maxRecDepth 100000

theorem Tryz.infoBs : (Tryz.prog.info? 24).map (fun i=>(i.zero,i.size,i.bytes)) = some (some (.slice none 0 0),1,24):=by kernel_rfl

theorem own_slice' {w : World} {base e size n : Nat} {v : Value} {xs : List Value} (h : w.ownsRow base e size v n xs) : ∃ ao cap,v = .slice ao n cap:=row_slice (Row.of_owns h)

set_option maxHeartbeats 2000000 in
theorem refServerCome_keeps (gen : Int) (bl : List (List UInt8)) (busy : Bool) (nc nt nk na no nn : Int) (pl : List (Int × Int)) (se sn : Int) (box plan bv : Value) (b : List UInt8) (w : World) (A : Nat → Prop) (hb : Rd A (fun w=>RowOf 1 elBs w box bl) w) (hp : Rd A (fun w=>Writes w plan pl) w) (hv : Rd A (fun w=>Bytes w bv b) w) (hr : bl.length ≤ 1000) :
  Keeps Tryz.prog 9 #[.agg #[I gen,box,.bool busy,I nc,I nt,I nk,I na,I no,I nn,plan,I se,I sn],bv] w A (fun r w'=>TupE elSv (comeSv ⟨gen,bl,busy,⟨nc,nt,⟨nk,na,no,nn⟩⟩,pl,⟨se,sn⟩⟩ b).1 (comeSv ⟨gen,bl,busy,⟨nc,nt,⟨nk,na,no,nn⟩⟩,pl,⟨se,sn⟩⟩ b).2 r w'):=by
 unfold Keeps
 obtain ⟨ba,bc,rfl⟩:=rowOf_slice hb.out
 obtain ⟨pa,pc,rfl⟩:=row_slice hp.out
 obtain ⟨va,vc,rfl⟩:=row_slice hv.out
 have HB:=Lib.hid hb
 have HP:=Lib.hid hp
 have HV:=Lib.hid hv
 clear hb hp hv
 have e0 : Ext w ((w.alloc (.cells #[I gen,(.slice ba bl.length bc),.bool busy,I nc,I nt,I nk,I na,I no,I nn,(.slice pa pl.length pc),I se,I sn] 41)).alloc (.cells #[I 0,.slice none 0 0,.bool false,I 0,I 0,I 0,I 0,I 0,I 0,.slice none 0 0,I 0,I 0] 41)):=((Ext.refl w).alloc _).alloc _
 by_cases h3 : 3 ≤ bl.length
 case pos =>
  have hX : comeSv ⟨gen,bl,busy,⟨nc,nt,⟨nk,na,no,nn⟩⟩,pl,⟨se,sn⟩⟩ b = (⟨gen,bl,busy,⟨nc,nt,⟨nk,na,no,nn⟩⟩,pl,⟨se,sn⟩⟩,9):=if_pos h3
  rw [hX]
  have hl1 : (3 : Int) ≤ (bl.length : Int):=by omega
  have hl2 : ¬ ((bl.length : Int) < 3):=by omega
  clear hX
  go_enter Tryz.func9,Tryz.ntmps9
  go_wp2
  refine bodyPost_ret (by simp [results,Tryz.results9,go_sem]; rfl) rfl ?_
  exact ⟨_,rfl,((Ext.refl w).alloc _).alloc _,((tupE_rd (sv_rd (v:=⟨gen,bl,busy,⟨nc,nt,⟨nk,na,no,nn⟩⟩,pl,⟨se,sn⟩⟩) HB.out HP.out)).ext (((Ext.refl w).alloc _).alloc _)).widen (fun _ _ h=>.inl h)⟩
 have hX : comeSv ⟨gen,bl,busy,⟨nc,nt,⟨nk,na,no,nn⟩⟩,pl,⟨se,sn⟩⟩ b = (⟨gen,bl ++ [b],busy,⟨nc,nt,⟨nk,na,no,nn⟩⟩,pl,⟨se,sn⟩⟩,0):=if_neg h3
 rw [hX]
 clear hX
 have hl1 : ¬ ((3 : Int) ≤ (bl.length : Int)):=by omega
 have hl2 : (bl.length : Int) < 3:=by omega
 have HR:=Lib.hid hr
 clear hr h3
 obtain ⟨i0,hi,hz0,hz1,hz2⟩:=info_parts Tryz.infoBs
 have HI:=Lib.hid hi
 clear hi
 obtain ⟨css,hcs,hrow⟩:=rd_rowOf (by decide) HB.out
 have HCS:=Lib.hid hcs
 have HROW:=Lib.hid hrow
 clear hcs hrow
 have HBL:=Lib.hid (fun wx (h : Ext ((w.alloc (.cells #[I gen,(.slice ba bl.length bc),.bool busy,I nc,I nt,I nk,I na,I no,I nn,(.slice pa pl.length pc),I se,I sn] 41)).alloc (.cells #[I 0,.slice none 0 0,.bool false,I 0,I 0,I 0,I 0,I 0,I 0,.slice none 0 0,I 0,I 0] 41)) wx)=>And.intro (first_block h) (second_block h))
 have hsz : ((w.alloc (.cells #[I gen,(.slice ba bl.length bc),.bool busy,I nc,I nt,I nk,I na,I no,I nn,(.slice pa pl.length pc),I se,I sn] 41)).alloc (.cells #[I 0,.slice none 0 0,.bool false,I 0,I 0,I 0,I 0,I 0,I 0,.slice none 0 0,I 0,I 0] 41)).heap.size = w.heap.size + 2:=by simp
 have HSZ:=Lib.hid hsz
 clear hsz
 obtain ⟨B,hB⟩:=away A w.heap.size 2
 have HK:=Lib.hid hB
 clear hB
 have HONES:=Lib.hid (HCS.out.out.ones oneBs)
 go_enter Tryz.func9,Tryz.ntmps9
 go_wp2_with (at_builtin; refine stop_at ?_)
 unfold Hid
 generalize hw0 : (w.alloc (.cells #[I gen,(.slice ba bl.length bc),.bool busy,I nc,I nt,I nk,I na,I no,I nn,(.slice pa pl.length pc),I se,I sn] 41)).alloc (.cells #[I 0,.slice none 0 0,.bool false,I 0,I 0,I 0,I 0,I 0,I 0,.slice none 0 0,I 0,I 0] 41) = w0 at *
 clear hw0
 have hz:=HSZ.out
 have hem:=World.ownsRow_lit (base:=w0.heap.size) (e:=24) (size:=1) w0 #[] 0 (Nat.le_refl _) (by decide) rfl
 rw [hz] at hem
 refine wpList_append_row _ rfl (.tmp 11) (.tmp 13) 32 rfl (w.heap.size + 2) 24 i0 (.slice none 0 0) 1 24 Tryz.underlying32 HI.out hz0 hz1 hz2 rfl (by decide) (.slice (some ⟨w.heap.size + 2,0,none⟩) 0 0) 0 [] rfl hem _ rfl bl.length css.flatten (HROW.out.ext (e0.alloc _)) HONES.out (by have:=HR.out; omega) (by decide) (by simp; omega) ?_
 intro v1 w1 ho1 hg1
 simp only [Nat.zero_add,List.nil_append] at ho1
 have e1 : Ext w0 w1:=((Ext.refl w0).alloc (.cells #[] 24)).grown hg1 (fun k hk=>by (have h5 : w.heap.size + 2 = k:=by simpa [Value.ownBlock] using hk); omega)
 clear hem hg1
 go_wp2_with (at_builtin; refine stop_at ?_)
 unfold Hid
 have hone : Row (w1.alloc (.cells #[.slice va b.length vc] 24)) 1 (.slice (some ⟨w1.heap.size,0,none⟩) 1 1) 1 [.slice va b.length vc]:=Row.of_owns (World.ownsRow_lit (base:=0) (e:=24) (size:=1) w1 #[.slice va b.length vc] 1 (Nat.zero_le _) (by decide) rfl)
 have hs1:=e1.size
 refine wpList_append_row _ rfl (.tmp 14) (.tmp 16) 32 rfl (w.heap.size + 2) 24 i0 (.slice none 0 0) 1 24 Tryz.underlying32 HI.out hz0 hz1 hz2 rfl (by decide) v1 bl.length css.flatten rfl (owns_ext ho1 ((Ext.refl w1).alloc _)) _ rfl 1 _ hone (fun u hu=>by simp at hu; rw [hu]; rfl) (by have:=HR.out; omega) (by decide) (by simp; omega) ?_
 intro v2 w2 ho2 hg2
 have e2 : Ext w0 w2:=(e1.alloc (.cells #[.slice va b.length vc] 24)).grown hg2 (fun k hk=>by have:=(ho1.lt k hk).1; omega)
 clear hone hg2 ho1 hs1
 have ho2 : w2.ownsRow (w.heap.size + 2) 24 1 v2 (bl.length + 1) (css ++ [[Value.slice va b.length vc]]).flatten:=by simpa using ho2
 have k1 : Rd B (fun w=>RowOf 1 elBs w v2 (bl ++ [b])) w2:=by
  refine rd_own_of (fun k h _=>HK.out.2.1 k h) (Rd.snoc ((HCS.out.widen HK.out.1).ext (e0.trans e2)) ?_ rfl) ho2 (by decide)
  exact ((HV.out.widen HK.out.1).ext (e0.trans e2)).imp fun w h=>⟨_,rfl,h⟩
 obtain ⟨qa,qc,hqs⟩:=own_slice' ho2
 subst hqs
 have K1:=Lib.hid k1
 clear ho2 k1
 obtain ⟨b0,b1⟩:=HBL.out w2 e2
 have x0:=cells_at b0
 have f0:=frozen_at b0
 have y0:=cells_at b1
 have g0:=frozen_at b1
 go_wp2
 clear x0 f0 y0 g0
 have n0 : ¬ B w.heap.size:=HK.out.2.2.1 _ (Nat.le_refl _) (by omega)
 have n1 : ¬ B (w.heap.size + 1):=HK.out.2.2.1 _ (by omega) (by omega)
 have b2:=put_all (block_set (i:=1) (x:=(.slice qa (bl.length + 1) qc)) b1 (Nat.succ_ne_self w.heap.size)) [I gen,(.slice qa (bl.length + 1) qc),.bool busy,I nc,I nt,I nk,I na,I no,I nn,(.slice pa pl.length pc),I se,I sn] rfl
 have ew:=Ext.put (b:=w.heap.size + 1) (by omega) [I gen,(.slice qa (bl.length + 1) qc),.bool busy,I nc,I nt,I nk,I na,I no,I nn,(.slice pa pl.length pc),I se,I sn] ((e0.trans e2).setCell (p:=⟨w.heap.size,1,none⟩) (Nat.le_refl _) (.slice qa (bl.length + 1) qc)) 0
 have r1:=Rd.put n1 [I gen,(.slice qa (bl.length + 1) qc),.bool busy,I nc,I nt,I nk,I na,I no,I nn,(.slice pa pl.length pc),I se,I sn] (K1.out.set n0 1 (.slice qa (bl.length + 1) qc)) 0
 have rHP:=Rd.put n1 [I gen,(.slice qa (bl.length + 1) qc),.bool busy,I nc,I nt,I nk,I na,I no,I nn,(.slice pa pl.length pc),I se,I sn] (((HP.out.widen HK.out.1).ext (e0.trans e2)).set n0 1 (.slice qa (bl.length + 1) qc)) 0
 generalize hwz : ((((((((((((w2.setCell ⟨w.heap.size,1,none⟩ (.slice qa (bl.length + 1) qc)).setCell ⟨w.heap.size + 1,0,none⟩ (I gen)).setCell ⟨w.heap.size + 1,1,none⟩ (.slice qa (bl.length + 1) qc)).setCell ⟨w.heap.size + 1,2,none⟩ (.bool busy)).setCell ⟨w.heap.size + 1,3,none⟩ (I nc)).setCell ⟨w.heap.size + 1,4,none⟩ (I nt)).setCell ⟨w.heap.size + 1,5,none⟩ (I nk)).setCell ⟨w.heap.size + 1,6,none⟩ (I na)).setCell ⟨w.heap.size + 1,7,none⟩ (I no)).setCell ⟨w.heap.size + 1,8,none⟩ (I nn)).setCell ⟨w.heap.size + 1,9,none⟩ (.slice pa pl.length pc)).setCell ⟨w.heap.size + 1,10,none⟩ (I se)).setCell ⟨w.heap.size + 1,11,none⟩ (I sn) = wz
 replace hwz : putN (w2.setCell ⟨w.heap.size,1,none⟩ (.slice qa (bl.length + 1) qc)) (w.heap.size + 1) 0 [I gen,(.slice qa (bl.length + 1) qc),.bool busy,I nc,I nt,I nk,I na,I no,I nn,(.slice pa pl.length pc),I se,I sn] = wz:=hwz
 rw [hwz] at b2 ew r1 rHP
 have q0:=cells_at b2
 clear hwz
 refine bodyPost_ret (by simp [results,Tryz.results9,go_sem,q0]; rfl) rfl ?_
 exact ⟨_,rfl,ew,Rd.widen (A:=B) (tupE_rd (sv_rd (v:=⟨gen,bl ++ [b],busy,⟨nc,nt,⟨nk,na,no,nn⟩⟩,pl,⟨se,sn⟩⟩) r1 rHP)) (fun k _ h=>HK.out.2.2.2 k h)⟩

set_option maxHeartbeats 2000000 in
theorem refClientCome_keeps (cl : List Cl) (at_ : Int) (sent : Bool) (gen : Int) (bl : List (List UInt8)) (gl : List Rp) (calls box got bv : Value) (b : List UInt8) (w : World) (A : Nat → Prop) (hc : Rd A (fun w=>RowOf 4 elCl w calls cl) w) (hb : Rd A (fun w=>RowOf 1 elBs w box bl) w) (hg : Rd A (fun w=>RowOf 2 elRp w got gl) w) (hv : Rd A (fun w=>Bytes w bv b) w) (hr : bl.length ≤ 1000) :
  Keeps Tryz.prog 47 #[.agg #[calls,I at_,.bool sent,I gen,box,got],bv] w A (fun r w'=>Agg elCn (comeCn ⟨cl,at_,sent,gen,bl,gl⟩ b) r w'):=by
 unfold Keeps
 obtain ⟨ba,bc,rfl⟩:=rowOf_slice hb.out
 obtain ⟨ca,cc,rfl⟩:=rowOf_slice hc.out
 obtain ⟨ga,gc,rfl⟩:=rowOf_slice hg.out
 obtain ⟨va,vc,rfl⟩:=row_slice hv.out
 have HC:=Lib.hid hc
 have HB:=Lib.hid hb
 have HG:=Lib.hid hg
 have HV:=Lib.hid hv
 clear hc hb hg hv
 have e0 : Ext w ((w.alloc (.cells #[(.slice ca cl.length cc),I at_,.bool sent,I gen,(.slice ba bl.length bc),(.slice ga gl.length gc)] 100)).alloc (.cells #[.slice none 0 0,I 0,.bool false,I 0,.slice none 0 0,.slice none 0 0] 100)):=((Ext.refl w).alloc _).alloc _
 by_cases h3 : 3 ≤ bl.length
 case pos =>
  have hX : comeCn ⟨cl,at_,sent,gen,bl,gl⟩ b = ⟨cl,at_,sent,gen,bl,gl⟩:=if_neg (by show ¬ bl.length < 3; omega)
  rw [hX]
  have hl1 : (3 : Int) ≤ (bl.length : Int):=by omega
  have hl2 : ¬ ((bl.length : Int) < 3):=by omega
  clear hX
  go_enter Tryz.func47,Tryz.ntmps47
  go_wp2
  refine bodyPost_ret (by simp [results,Tryz.results47,go_sem]; rfl) rfl ?_
  exact ⟨_,rfl,((Ext.refl w).alloc _).alloc _,((agg_rd (cn_rd (c:=⟨cl,at_,sent,gen,bl,gl⟩) HC.out HB.out HG.out)).ext (((Ext.refl w).alloc _).alloc _)).widen (fun _ _ h=>.inl h)⟩
 have hX : comeCn ⟨cl,at_,sent,gen,bl,gl⟩ b = ⟨cl,at_,sent,gen,bl ++ [b],gl⟩:=if_pos (by show bl.length < 3; omega)
 rw [hX]
 clear hX
 have hl1 : ¬ ((3 : Int) ≤ (bl.length : Int)):=by omega
 have hl2 : (bl.length : Int) < 3:=by omega
 have HR:=Lib.hid hr
 clear hr h3
 obtain ⟨i0,hi,hz0,hz1,hz2⟩:=info_parts Tryz.infoBs
 have HI:=Lib.hid hi
 clear hi
 obtain ⟨css,hcs,hrow⟩:=rd_rowOf (by decide) HB.out
 have HCS:=Lib.hid hcs
 have HROW:=Lib.hid hrow
 clear hcs hrow
 have HBL:=Lib.hid (fun wx (h : Ext ((w.alloc (.cells #[(.slice ca cl.length cc),I at_,.bool sent,I gen,(.slice ba bl.length bc),(.slice ga gl.length gc)] 100)).alloc (.cells #[.slice none 0 0,I 0,.bool false,I 0,.slice none 0 0,.slice none 0 0] 100)) wx)=>And.intro (first_block h) (second_block h))
 have hsz : ((w.alloc (.cells #[(.slice ca cl.length cc),I at_,.bool sent,I gen,(.slice ba bl.length bc),(.slice ga gl.length gc)] 100)).alloc (.cells #[.slice none 0 0,I 0,.bool false,I 0,.slice none 0 0,.slice none 0 0] 100)).heap.size = w.heap.size + 2:=by simp
 have HSZ:=Lib.hid hsz
 clear hsz
 obtain ⟨B,hB⟩:=away A w.heap.size 2
 have HK:=Lib.hid hB
 clear hB
 have HONES:=Lib.hid (HCS.out.out.ones oneBs)
 go_enter Tryz.func47,Tryz.ntmps47
 go_wp2_with (at_builtin; refine stop_at ?_)
 unfold Hid
 generalize hw0 : (w.alloc (.cells #[(.slice ca cl.length cc),I at_,.bool sent,I gen,(.slice ba bl.length bc),(.slice ga gl.length gc)] 100)).alloc (.cells #[.slice none 0 0,I 0,.bool false,I 0,.slice none 0 0,.slice none 0 0] 100) = w0 at *
 clear hw0
 have hz:=HSZ.out
 have hem:=World.ownsRow_lit (base:=w0.heap.size) (e:=24) (size:=1) w0 #[] 0 (Nat.le_refl _) (by decide) rfl
 rw [hz] at hem
 refine wpList_append_row _ rfl (.tmp 9) (.tmp 11) 32 rfl (w.heap.size + 2) 24 i0 (.slice none 0 0) 1 24 Tryz.underlying32 HI.out hz0 hz1 hz2 rfl (by decide) (.slice (some ⟨w.heap.size + 2,0,none⟩) 0 0) 0 [] rfl hem _ rfl bl.length css.flatten (HROW.out.ext (e0.alloc _)) HONES.out (by have:=HR.out; omega) (by decide) (by simp; omega) ?_
 intro v1 w1 ho1 hg1
 simp only [Nat.zero_add,List.nil_append] at ho1
 have e1 : Ext w0 w1:=((Ext.refl w0).alloc (.cells #[] 24)).grown hg1 (fun k hk=>by (have h5 : w.heap.size + 2 = k:=by simpa [Value.ownBlock] using hk); omega)
 clear hem hg1
 go_wp2_with (at_builtin; refine stop_at ?_)
 unfold Hid
 have hone : Row (w1.alloc (.cells #[.slice va b.length vc] 24)) 1 (.slice (some ⟨w1.heap.size,0,none⟩) 1 1) 1 [.slice va b.length vc]:=Row.of_owns (World.ownsRow_lit (base:=0) (e:=24) (size:=1) w1 #[.slice va b.length vc] 1 (Nat.zero_le _) (by decide) rfl)
 have hs1:=e1.size
 refine wpList_append_row _ rfl (.tmp 12) (.tmp 14) 32 rfl (w.heap.size + 2) 24 i0 (.slice none 0 0) 1 24 Tryz.underlying32 HI.out hz0 hz1 hz2 rfl (by decide) v1 bl.length css.flatten rfl (owns_ext ho1 ((Ext.refl w1).alloc _)) _ rfl 1 _ hone (fun u hu=>by simp at hu; rw [hu]; rfl) (by have:=HR.out; omega) (by decide) (by simp; omega) ?_
 intro v2 w2 ho2 hg2
 have e2 : Ext w0 w2:=(e1.alloc (.cells #[.slice va b.length vc] 24)).grown hg2 (fun k hk=>by have:=(ho1.lt k hk).1; omega)
 clear hone hg2 ho1 hs1
 have ho2 : w2.ownsRow (w.heap.size + 2) 24 1 v2 (bl.length + 1) (css ++ [[Value.slice va b.length vc]]).flatten:=by simpa using ho2
 have k1 : Rd B (fun w=>RowOf 1 elBs w v2 (bl ++ [b])) w2:=by
  refine rd_own_of (fun k h _=>HK.out.2.1 k h) (Rd.snoc ((HCS.out.widen HK.out.1).ext (e0.trans e2)) ?_ rfl) ho2 (by decide)
  exact ((HV.out.widen HK.out.1).ext (e0.trans e2)).imp fun w h=>⟨_,rfl,h⟩
 obtain ⟨qa,qc,hqs⟩:=own_slice' ho2
 subst hqs
 have K1:=Lib.hid k1
 clear ho2 k1
 obtain ⟨b0,b1⟩:=HBL.out w2 e2
 have x0:=cells_at b0
 have f0:=frozen_at b0
 have y0:=cells_at b1
 have g0:=frozen_at b1
 go_wp2
 clear x0 f0 y0 g0
 have n0 : ¬ B w.heap.size:=HK.out.2.2.1 _ (Nat.le_refl _) (by omega)
 have n1 : ¬ B (w.heap.size + 1):=HK.out.2.2.1 _ (by omega) (by omega)
 have b2:=put_all (block_set (i:=4) (x:=(.slice qa (bl.length + 1) qc)) b1 (Nat.succ_ne_self w.heap.size)) [(.slice ca cl.length cc),I at_,.bool sent,I gen,(.slice qa (bl.length + 1) qc),(.slice ga gl.length gc)] rfl
 have ew:=Ext.put (b:=w.heap.size + 1) (by omega) [(.slice ca cl.length cc),I at_,.bool sent,I gen,(.slice qa (bl.length + 1) qc),(.slice ga gl.length gc)] ((e0.trans e2).setCell (p:=⟨w.heap.size,4,none⟩) (Nat.le_refl _) (.slice qa (bl.length + 1) qc)) 0
 have r1:=Rd.put n1 [(.slice ca cl.length cc),I at_,.bool sent,I gen,(.slice qa (bl.length + 1) qc),(.slice ga gl.length gc)] (K1.out.set n0 4 (.slice qa (bl.length + 1) qc)) 0
 have rHC:=Rd.put n1 [(.slice ca cl.length cc),I at_,.bool sent,I gen,(.slice qa (bl.length + 1) qc),(.slice ga gl.length gc)] (((HC.out.widen HK.out.1).ext (e0.trans e2)).set n0 4 (.slice qa (bl.length + 1) qc)) 0
 have rHG:=Rd.put n1 [(.slice ca cl.length cc),I at_,.bool sent,I gen,(.slice qa (bl.length + 1) qc),(.slice ga gl.length gc)] (((HG.out.widen HK.out.1).ext (e0.trans e2)).set n0 4 (.slice qa (bl.length + 1) qc)) 0
 generalize hwz : ((((((w2.setCell ⟨w.heap.size,4,none⟩ (.slice qa (bl.length + 1) qc)).setCell ⟨w.heap.size + 1,0,none⟩ (.slice ca cl.length cc)).setCell ⟨w.heap.size + 1,1,none⟩ (I at_)).setCell ⟨w.heap.size + 1,2,none⟩ (.bool sent)).setCell ⟨w.heap.size + 1,3,none⟩ (I gen)).setCell ⟨w.heap.size + 1,4,none⟩ (.slice qa (bl.length + 1) qc)).setCell ⟨w.heap.size + 1,5,none⟩ (.slice ga gl.length gc) = wz
 replace hwz : putN (w2.setCell ⟨w.heap.size,4,none⟩ (.slice qa (bl.length + 1) qc)) (w.heap.size + 1) 0 [(.slice ca cl.length cc),I at_,.bool sent,I gen,(.slice qa (bl.length + 1) qc),(.slice ga gl.length gc)] = wz:=hwz
 rw [hwz] at b2 ew r1 rHC rHG
 have q0:=cells_at b2
 clear hwz
 refine bodyPost_ret (by simp [results,Tryz.results47,go_sem,q0]; rfl) rfl ?_
 exact ⟨_,rfl,ew,Rd.widen (A:=B) (agg_rd (cn_rd (c:=⟨cl,at_,sent,gen,bl ++ [b],gl⟩) rHC r1 rHG)) (fun k _ h=>HK.out.2.2.2 k h)⟩

end Go.Proofs.YtdmipnnfooleladGreat

namespace Go.Proofs.YtdmipnnfooleladGreat
open Go.RowKit Go.Mk
set_option maxRecDepth 100000

theorem bss_formV {w : World} {v : Value} {l : List (List UInt8)} (h : RowOf 1 elBs w v l) : ∃ ao cap,v = .slice ao l.length cap ∧ l.length ≤ cap ∧ cap ≤ maxLen ∧
  ∀ k x,l[k]? = some x → ∃ b off bv,ao = some ⟨b,off,none⟩ ∧ w.cell? ⟨b,off + k,none⟩ = some bv ∧ Bytes w bv x:=by
 obtain ⟨ao,cap,h1,h2,h3,-,h5⟩:=h.form (by decide)
 refine ⟨ao,cap,h1,h2,h3,fun k x hx=>?_⟩
 obtain ⟨b,off,c,e,-,⟨bv,rfl,hb⟩,hcell⟩:=h5 k x hx
 refine ⟨b,off,bv,e,?_,hb⟩
 have:=hcell 0 bv rfl
 rwa [Nat.mul_one,Nat.add_zero] at this

set_option maxHeartbeats 400000 in
theorem own_bytesV (v : Value) (xs : List UInt8) (w : World) (hv : Bytes w v xs) (hr : xs.length ≤ 140737488355328) :
  Gives Tryz.prog 25 #[v] w fun r w'=>w'.ownsRow w.heap.size 5 1 r xs.length (xs.map U):=by
 unfold Gives
 obtain ⟨i0,hi,hz0,hz1,hz2⟩:=info_parts Tryz.infoByte
 have hsz : (Tryz.prog.info? 5).map (·.size) = some 1:=by rw [hi]; simp [hz1]
 have hrow : Row w 1 v xs.length (xs.map U):=hv
 clear hv
 obtain ⟨hlen,ao,cap,rfl,h1,h2,h0,h3⟩:=hrow
 unfold maxLen at h2
 go_enter Tryz.func25,Tryz.ntmps25
 go_wp2_with (at_make; refine wpList_make_full _ rfl _ _ 24 rfl w.heap.size 5 i0 (.int .u8 0) 1 Tryz.underlying24 hi hz0 hz1 .i64 .i64 _ _ xs.length rfl rfl rfl rfl (by rw [hz2]; omega) (by unfold maxLen; omega) (Nat.le_refl _) ?_; intro w1 hown hgrow)
 have he1 : Ext w w1:=(Ext.refl w).grown hgrow (fun k hk=>by cases hk)
 obtain ⟨w2,hrun,hown2,hgrow2⟩:=run_copy_sized (P:=Tryz.prog) w1 24 3 5 1 Tryz.underlying24 hsz w.heap.size w.heap.size xs.length _ (xs.map U) _ hown (Row.ext ⟨hlen,ao,cap,rfl,h1,h2,h0,h3⟩ he1) (mapU_one xs)
 have he2 : Ext w w2:=he1.grown hgrow2 (fun k hk=>by cases hk; exact Nat.le_refl _)
 rw [hrun]
 clear hrun hown hgrow hgrow2 he1 h3
 go_wp2
 go_ret
 exact ⟨_,rfl,he2,hown2⟩

set_option maxHeartbeats 400000 in
theorem own_writesV (v : Value) (xs : List (Int × Int)) (w : World) (hv : Writes w v xs) (hr : xs.length * 16 ≤ 140737488355328) :
  Gives Tryz.prog 28 #[v] w fun r w'=>w'.ownsRow w.heap.size 79 2 r xs.length (cells2 xs):=by
 unfold Gives
 obtain ⟨i0,hi,hz0,hz1,hz2⟩:=info_parts Tryz.infoWrite
 have hsz : (Tryz.prog.info? 79).map (·.size) = some 2:=by rw [hi]; simp [hz1]
 have hrow : Row w 2 v xs.length (cells2 xs):=hv
 clear hv
 obtain ⟨hlen,ao,cap,rfl,h1,h2,h0,h3⟩:=hrow
 unfold maxLen at h2
 go_enter Tryz.func28,Tryz.ntmps28
 go_wp2_with (at_make; refine wpList_make_full _ rfl _ _ 27 rfl w.heap.size 79 i0 (.agg #[.int .i64 0,.int .i64 0]) 2 Tryz.underlying27 hi hz0 hz1 .i64 .i64 _ _ xs.length rfl rfl rfl rfl (by rw [hz2]; omega) (by unfold maxLen; omega) (Nat.le_refl _) ?_; intro w1 hown hgrow)
 have he1 : Ext w w1:=(Ext.refl w).grown hgrow (fun k hk=>by cases hk)
 obtain ⟨w2,hrun,hown2,hgrow2⟩:=run_copy_sized (P:=Tryz.prog) w1 27 3 79 2 Tryz.underlying27 hsz w.heap.size w.heap.size xs.length _ (cells2 xs) _ hown (Row.ext ⟨hlen,ao,cap,rfl,h1,h2,h0,h3⟩ he1) (cells2_one xs)
 have he2 : Ext w w2:=he1.grown hgrow2 (fun k hk=>by cases hk; exact Nat.le_refl _)
 rw [hrun]
 clear hrun hown hgrow hgrow2 he1 h3
 go_wp2
 go_ret
 exact ⟨_,rfl,he2,hown2⟩

/-- A box of bytes in memory of its own. -/
def OwnBox (base : Nat) (w : World) (u : Value) (bl : List (List UInt8)) : Prop:=∃ evs : List Value,w.ownsRow base 24 1 u bl.length evs ∧ ∀ (i : Nat) (b : List UInt8),bl[i]? = some b → ∃ ev,evs[i]? = some ev ∧ w.ownsRow base 5 1 ev b.length (b.map U)

set_option maxHeartbeats 1000000 in
theorem ownBox_any (v : Value) (bl : List (List UInt8)) (w : World) (hv : RowOf 1 elBs w v bl) (h1 : bl.length * 24 ≤ 140737488355328) (h2 : ∀ b ∈ bl,b.length ≤ 140737488355328) :
  Gives Tryz.prog 27 #[v] w fun r w'=>OwnBox w.heap.size w' r bl ∧ ∃ g,r = .slice (some ⟨g,0,none⟩) bl.length bl.length:=by
 unfold Gives
 obtain ⟨i0,hi,hz0,hz1,hz2⟩:=info_parts Tryz.infoBs
 obtain ⟨ao,cap,rfl,g1,g2,g3⟩:=bss_formV hv
 unfold maxLen at g2
 have G3:=Lib.hid g3
 have H2:=Lib.hid h2
 clear hv g3 h2
 go_enter Tryz.func27,Tryz.ntmps27
 go_wp2_with (at_make; refine wpList_make_full _ rfl _ _ 32 rfl w.heap.size 24 i0 (.slice none 0 0) 1 Tryz.underlying32 hi hz0 hz1 .i64 .i64 _ _ bl.length rfl rfl rfl rfl (by rw [hz2]; omega) (by unfold maxLen; omega) (Nat.le_refl _) ?_; intro w1 hown hgrow)
 have he1 : Ext w w1:=(Ext.refl w).grown hgrow (fun k hk=>by cases hk)
 clear hgrow hi hz0 hz1 hz2
 generalize hg : w.heap.size = g at *
 have HG:=Lib.hid hg
 clear hg
 have HO:=Lib.hid hown
 clear hown
 go_wp2_with fail
 go_loopw [11] (fun i wr=>∃ (k : Nat) (evs : List Value),k ≤ bl.length ∧ i = I k ∧ wr.ownsRow g 24 1 (.slice (some ⟨g,0,none⟩) bl.length bl.length) bl.length evs ∧ (∀ (j : Nat) (b : List UInt8),j < k → bl[j]? = some b → ∃ ev,evs[j]? = some ev ∧ wr.ownsRow g 5 1 ev b.length (b.map U)) ∧ Ext w wr) (fun i _=>bl.length - (intOf i).toNat)
 case atStart=>exact ⟨0,_,Nat.zero_le _,rfl,HO.out,fun j b hj=>by omega,he1⟩
 case round =>
  obtain ⟨k,evs,hk,rfl,ho,hall,he⟩:=hrel
  have HALL:=Lib.hid hall
  clear hall he1 HO
  by_cases hlt : k < bl.length
  ·obtain ⟨x,hx⟩ : ∃ x,bl[k]? = some x:=⟨bl[k],List.getElem?_eq_getElem hlt⟩
   obtain ⟨xb,xo,bv,rfl,hcell,hby⟩:=G3.out k x hx
   have hxl:=H2.out x (List.mem_of_getElem? hx)
   have HX:=Lib.hid hx
   clear hx
   replace hcell:=he.cell hcell
   obtain ⟨ba,bc,rfl⟩:=row_slice hby
   have HBY:=Lib.hid (hby.ext he)
   clear hby
   go_wp2_with fail
   refine (own_bytesV _ x wr HBY.out hxl).to fun r w2 e2 hr=>?_
   obtain ⟨ra,rc,rfl⟩:=own_slice hr
   have hown2:=owns_ext ho e2
   have hle : evs.length = bl.length:=by have:=ho.1; simpa using this
   have c5 : w2.cell? ⟨g,k,none⟩ = some (evs[k]'(by omega)):=by
    have q:=(Row.of_owns hown2)
    obtain ⟨_,ao2,cap2,eq2,_,_,_,q5⟩:=q
    obtain ⟨b3,o3,e3,q6⟩:=q5 k _ (List.getElem?_eq_getElem (by omega))
    simp only [Value.slice.injEq] at eq2
    rw [← eq2.1] at e3
    simp only [Option.some.injEq,Addr.mk.injEq,and_true] at e3
    obtain ⟨rfl,rfl⟩:=e3
    simpa using q6
   have f5 : w2.frozen? ⟨g,k,none⟩ = false:=hown2.frozenAt _
   have hr2:=Lib.hid (owns_base hr (b2:=g) (by have:=he.size; have:=HG.out; omega))
   have he2:=he.trans e2
   have E2:=Lib.hid e2
   clear hcell ho e2 he hr
   go_wp2
   go_roundw
   case rel =>
    have hst:=hown2.stored k (.slice ra x.length rc)
    refine ⟨k + 1,_,by omega,by go_num,hst.1,fun j b hj hb=>?_,he2.setCell (by rw [HG.out]; exact Nat.le_refl _) _⟩
    by_cases hjk : j = k
    ·subst hjk
     have hb2 : bl[j]? = some b:=hb
     rw [HX.out] at hb2
     cases hb2
     refine ⟨_,List.getElem?_set_self (by omega),?_⟩
     exact hr2.out.kept hst.2 (own_types hr2.out hown2 (by decide))
    ·obtain ⟨ev,h3,h4⟩:=HALL.out j b (by omega) hb
     refine ⟨ev,by rw [List.getElem?_set_ne (fun e=>hjk e.symm)]; exact h3,?_⟩
     have h5:=owns_ext h4 E2.out
     exact h5.kept hst.2 (own_types h5 hown2 (by decide))
   case measure=>simp [intOf]; omega
  ·have hkl : k = bl.length:=by omega
   subst hkl
   go_wp2
   go_ret
   exact ⟨_,rfl,he,⟨evs,by rw [HG.out]; exact ho,fun i b hb=>by rw [HG.out]; exact HALL.out i b (List.getElem?_eq_some_iff.1 hb).1 hb⟩,_,rfl⟩

/-- What is described lies where the row does. -/
theorem rd_owns_in {base e size n : Nat} {v : Value} {cs : List Value} {w : World} {B : Nat → Prop} (h : w.ownsRow base e size v n cs) (hB : ∀ g,v.ownBlock = some g → B g) : Rd B (fun w=>Row w size v n cs) w:=fun w2 h2=>by
 refine Row.heap (Row.of_owns h) (fun j u b off hj ⟨m,cap,e⟩=>?_)
 rcases h.2 with ⟨rfl,_⟩ | ⟨g,cap',cur,rfl,hb,hg,_⟩
 ·cases e
 ·simp at e
  obtain ⟨⟨rfl,_⟩,_⟩:=e
  exact h2 g (hB g rfl) (Array.getElem?_eq_some_iff.1 hg).1
theorem OwnBox.rd {base : Nat} {w : World} {u : Value} {bl : List (List UInt8)} {B : Nat → Prop} (h : OwnBox base w u bl) (hB : ∀ g,base ≤ g → (∀ cs t,w.heap[g]? = some (.cells cs t (0,0)) → t = 24 ∨ t = 5) → B g) : Rd B (fun w=>RowOf 1 elBs w u bl) w:=by
 obtain ⟨evs,h1,h2⟩:=h
 have hl : evs.length = bl.length:=by have:=h1.1; simpa using this
 have hin : ∀ {e size n : Nat} {v : Value} {cs : List Value},w.ownsRow base e size v n cs → (e = 24 ∨ e = 5) → ∀ g,v.ownBlock = some g → B g:=fun {e size n v cs} ho he g hg=>by
  refine hB g (ho.lt g hg).1 (fun cs' t' hc=>?_)
  by_cases hne : e = t'
  ·rw [← hne]; exact he
  ·exact absurd hg (own_ne ho hc hne)
 have r1:=rd_owns_in h1 (hin h1 (.inl rfl))
 have r2 : Rd B (fun w=>∀ (i : Nat) (b : List UInt8) (ev : Value),bl[i]? = some b → evs[i]? = some ev → Bytes w ev b) w:=fun w2 hk i b ev hb hev=>by
  obtain ⟨ev',h3,h4⟩:=h2 i b hb
  rw [hev] at h3
  cases h3
  exact rd_owns_in h4 (hin h4 (.inr rfl)) w2 hk
 refine (r1.and r2).imp fun w' hw=>⟨evs.map (fun e=>[e]),⟨by simp [hl],fun i c x hc hx=>?_⟩,?_⟩
 ·rw [List.getElem?_map] at hc
  cases he : evs[i]? with
  | none=>rw [he] at hc; cases hc
  | some ev =>
   rw [he] at hc
   simp at hc
   subst hc
   exact ⟨rfl,ev,rfl,hw.2 i x ev hx he⟩
 ·have hf : ∀ l : List Value,(l.map fun e=>[e]).flatten = l:=fun l=>by
   induction l with
   | nil=>rfl
   | cons a l ih=>rw [List.map_cons,List.flatten_cons,ih]; rfl
  rw [hf]
  exact hw.1
theorem OwnBox.ext {base : Nat} {w w' : World} {u : Value} {bl : List (List UInt8)} (h : OwnBox base w u bl) (he : Ext w w') : OwnBox base w' u bl:=by
 obtain ⟨evs,h1,h2⟩:=h
 refine ⟨evs,owns_ext h1 he,fun i b hb=>?_⟩
 obtain ⟨ev,h3,h4⟩:=h2 i b hb
 exact ⟨ev,h3,owns_ext h4 he⟩
theorem OwnBox.low {base b2 : Nat} {w : World} {u : Value} {bl : List (List UInt8)} (h : OwnBox base w u bl) (hle : b2 ≤ base) : OwnBox b2 w u bl:=by
 obtain ⟨evs,h1,h2⟩:=h
 refine ⟨evs,owns_base h1 hle,fun i b hb=>?_⟩
 obtain ⟨ev,h3,h4⟩:=h2 i b hb
 exact ⟨ev,h3,owns_base h4 hle⟩
theorem OwnBox.kept {base : Nat} {w w' : World} {u : Value} {bl : List (List UInt8)} (h : OwnBox base w u bl) {b : Nat} (hg : w.grownBy w' (some b)) {cs : Array Value} {t : TypeId} (hb : w.heap[b]? = some (.cells cs t (0,0))) (hne : (24 : Nat) ≠ t) (hne2 : (5 : Nat) ≠ t) : OwnBox base w' u bl:=by
 obtain ⟨evs,h1,h2⟩:=h
 refine ⟨evs,h1.kept hg (.inr (own_ne h1 hb hne)),fun i b hb'=>?_⟩
 obtain ⟨ev,h3,h4⟩:=h2 i b hb'
 exact ⟨ev,h3,h4.kept hg (.inr (own_ne h4 hb hne2))⟩

end Go.Proofs.YtdmipnnfooleladGreat

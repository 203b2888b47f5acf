/- Texts of the proof, merged: W1 W2 W3 W4 S7 V1 V2 V3 G1 C7 C8. -/
import Derived.Test.YtdmipnnfoolelaeKE
import Derived.BigRegion
import Derived.Test.YtdmipnnfoolelaeKF
import Derived.Test.YtdmipnnfoolelaeKB
import Derived.Test.YtdmipnnfoolelaeKC
import Derived.Test.YtdmipnnfoolelaeKK
import Derived.Test.YtdmipnnfoolelaeKG
import Derived.Test.YtdmipnnfoolelaeKH

namespace Go.Proofs.Ytdmipnnfoolelae
open Go.RowKit Go.Mk

end Go.Proofs.Ytdmipnnfoolelae

namespace Go.Proofs.Ytdmipnnfoolelae
open Go.RowKit Go.Mk

end Go.Proofs.Ytdmipnnfoolelae

namespace Go.Proofs.Ytdmipnnfoolelae
open Go.RowKit Go.Mk

end Go.Proofs.Ytdmipnnfoolelae

namespace Go.Proofs.Ytdmipnnfoolelae
open Go.RowKit Go.Mk

end Go.Proofs.Ytdmipnnfoolelae

namespace Go.Proofs.Ytdmipnnfoolelae
open Go.RowKit Go.Mk

/-- A store in memory of its own. -/
structure OwnSt (base : Nat) (w : World) (c u a p : Value) (s : St) : Prop where
 cells : w.ownsRow base 3 1 c s.cells.length (s.cells.map I)
 undo : w.ownsRow base 97 2 u s.undo.length (cells2 s.undo)
 answers : w.ownsRow base 60 4 a s.answers.length (cellsA s.answers)
 past : w.ownsRow base 36 6 p s.past.length (cells6 s.past)
theorem OwnSt.rd {base : Nat} {w : World} {c u a p : Value} {s : St} (h : OwnSt base w c u a p s) : Rd (fun k=>base ≤ k) (fun w=>elSt w [c,u,a,p] s) w :=
 st_rd (rd_ints h.cells) (rd_writes h.undo) (rd_anss h.answers) (rd_rqs h.past)
theorem OwnSt.ext {base : Nat} {w w' : World} {c u a p : Value} {s : St} (h : OwnSt base w c u a p s) (he : Ext w w') : OwnSt base w' c u a p s :=
 ⟨owns_ext h.cells he,owns_ext h.undo he,owns_ext h.answers he,owns_ext h.past he⟩
theorem owns_low_ne {w : World} {base e size n b : Nat} {v : Value} {xs : List Value} (h : w.ownsRow base e size v n xs) (hb : b < base) : v.ownBlock ≠ some b:=fun e=>by have:=(h.lt b e).1; omega
theorem OwnSt.set {base : Nat} {w : World} {c u a p : Value} {s : St} (h : OwnSt base w c u a p s) {b : Nat} (hb : b < base) (i : Nat) (x : Value) : OwnSt base (w.setCell ⟨b,i,none⟩ x) c u a p s :=
 ⟨owns_setCell h.cells (owns_low_ne h.cells hb) i x,owns_setCell h.undo (owns_low_ne h.undo hb) i x,owns_setCell h.answers (owns_low_ne h.answers hb) i x,owns_setCell h.past (owns_low_ne h.past hb) i x⟩
theorem OwnSt.low {b1 b2 : Nat} {w : World} {c u a p : Value} {s : St} (h : OwnSt b1 w c u a p s) (hle : b2 ≤ b1) : OwnSt b2 w c u a p s:=⟨owns_base h.cells hle,owns_base h.undo hle,owns_base h.answers hle,owns_base h.past hle⟩
theorem own_slice {w : World} {base e size n : Nat} {v : Value} {xs : List Value} (h : w.ownsRow base e size v n xs) : ∃ ao cap,v = .slice ao n cap:=row_slice (Row.of_owns h)

end Go.Proofs.Ytdmipnnfoolelae

namespace Go.Proofs.Ytdmipnnfoolelae
open Go.RowKit Go.Mk

theorem bss_formV {w : World} {v : Value} {l : List (List UInt8)} (h : RowOf 1 elBs w v l) : ∃ ao cap,v = .slice ao l.length cap ∧ l.length ≤ cap ∧ cap ≤ maxLen ∧
  ∀ k x,l[k]? = some x → ∃ b off bv,ao = some ⟨b,off,none⟩ ∧ w.cell? ⟨b,off + k,none⟩ = some bv ∧ Bytes w bv x:=by
 obtain ⟨ao,cap,h1,h2,h3,-,h5⟩:=h.form (by decide)
 refine ⟨ao,cap,h1,h2,h3,fun k x hx=>?_⟩
 obtain ⟨b,off,c,e,-,⟨bv,rfl,hb⟩,hcell⟩:=h5 k x hx
 refine ⟨b,off,bv,e,?_,hb⟩
 have:=hcell 0 bv rfl
 rwa [Nat.mul_one,Nat.add_zero] at this

set_option maxRecDepth 100000 in
set_option maxHeartbeats 400000 in
theorem own_bytesV (v : Value) (xs : List UInt8) (w : World) (hv : Bytes w v xs) (hr : xs.length ≤ 140737488355328) :
  Gives Try.prog 48 #[v] w fun r w'=>w'.ownsRow w.heap.size 5 1 r xs.length (xs.map U):=by
 unfold Gives
 obtain ⟨i0,hi,hz0,hz1,hz2⟩:=info_parts Try.infoByte
 have hsz : (Try.prog.info? 5).map (·.size) = some 1:=by rw [hi]; simp [hz1]
 have hrow : Row w 1 v xs.length (xs.map U):=hv
 clear hv
 obtain ⟨hlen,ao,cap,rfl,h1,h2,h0,h3⟩:=hrow
 unfold maxLen at h2
 go_enter Try.func48,Try.ntmps48
 go_wp2_with (at_make; refine wpList_make_full _ rfl _ _ 24 rfl w.heap.size 5 i0 (.int .u8 0) 1 Try.underlying24 hi hz0 hz1 .i64 .i64 _ _ xs.length rfl rfl rfl rfl (by rw [hz2]; omega) (by unfold maxLen; omega) (Nat.le_refl _) ?_; intro w1 hown hgrow)
 have he1 : Ext w w1:=(Ext.refl w).grown hgrow (fun k hk=>by cases hk)
 obtain ⟨w2,hrun,hown2,hgrow2⟩:=run_copy_sized (P:=Try.prog) w1 24 3 5 1 Try.underlying24 hsz w.heap.size w.heap.size xs.length _ (xs.map U) _ hown (Row.ext ⟨hlen,ao,cap,rfl,h1,h2,h0,h3⟩ he1) (mapU_one xs)
 have he2 : Ext w w2:=he1.grown hgrow2 (fun k hk=>by cases hk; exact Nat.le_refl _)
 rw [hrun]
 clear hrun hown hgrow hgrow2 he1 h3
 go_wp2
 go_ret
 exact ⟨_,rfl,he2,hown2⟩

/-- A box of bytes in memory of its own. -/
def OwnBox (base : Nat) (w : World) (u : Value) (bl : List (List UInt8)) : Prop:=∃ evs : List Value,w.ownsRow base 24 1 u bl.length evs ∧ ∀ (i : Nat) (b : List UInt8),bl[i]? = some b → ∃ ev,evs[i]? = some ev ∧ w.ownsRow base 5 1 ev b.length (b.map U)

set_option maxRecDepth 100000 in
set_option maxHeartbeats 1000000 in
theorem ownBox_any (v : Value) (bl : List (List UInt8)) (w : World) (hv : RowOf 1 elBs w v bl) (h1 : bl.length * 24 ≤ 140737488355328) (h2 : ∀ b ∈ bl,b.length ≤ 140737488355328) :
  Gives Try.prog 36 #[v] w fun r w'=>OwnBox w.heap.size w' r bl ∧ ∃ g,r = .slice (some ⟨g,0,none⟩) bl.length bl.length:=by
 unfold Gives
 obtain ⟨i0,hi,hz0,hz1,hz2⟩:=info_parts Try.infoBs
 obtain ⟨ao,cap,rfl,g1,g2,g3⟩:=bss_formV hv
 unfold maxLen at g2
 have G3:=Lib.hid g3
 have H2:=Lib.hid h2
 clear hv g3 h2
 go_enter Try.func36,Try.ntmps36
 go_wp2_with (at_make; refine wpList_make_full _ rfl _ _ 32 rfl w.heap.size 24 i0 (.slice none 0 0) 1 Try.underlying32 hi hz0 hz1 .i64 .i64 _ _ bl.length rfl rfl rfl rfl (by rw [hz2]; omega) (by unfold maxLen; omega) (Nat.le_refl _) ?_; intro w1 hown hgrow)
 have he1 : Ext w w1:=(Ext.refl w).grown hgrow (fun k hk=>by cases hk)
 clear hgrow hi hz0 hz1 hz2
 generalize hg : w.heap.size = g at *
 have HG:=Lib.hid hg
 clear hg
 have HO:=Lib.hid hown
 clear hown
 go_wp2_with fail
 go_loopw [11] (fun i wr=>∃ (k : Nat) (evs : List Value),k ≤ bl.length ∧ i = I k ∧ wr.ownsRow g 24 1 (.slice (some ⟨g,0,none⟩) bl.length bl.length) bl.length evs ∧ (∀ (j : Nat) (b : List UInt8),j < k → bl[j]? = some b → ∃ ev,evs[j]? = some ev ∧ wr.ownsRow g 5 1 ev b.length (b.map U)) ∧ Ext w wr) (fun i _=>bl.length - (intOf i).toNat)
 case atStart=>exact ⟨0,_,Nat.zero_le _,rfl,HO.out,fun j b hj=>by omega,he1⟩
 case round =>
  obtain ⟨k,evs,hk,rfl,ho,hall,he⟩:=hrel
  have HALL:=Lib.hid hall
  clear hall he1 HO
  by_cases hlt : k < bl.length
  ·obtain ⟨x,hx⟩ : ∃ x,bl[k]? = some x:=⟨bl[k],List.getElem?_eq_getElem hlt⟩
   obtain ⟨xb,xo,bv,rfl,hcell,hby⟩:=G3.out k x hx
   have hxl:=H2.out x (List.mem_of_getElem? hx)
   have HX:=Lib.hid hx
   clear hx
   replace hcell:=he.cell hcell
   obtain ⟨ba,bc,rfl⟩:=row_slice hby
   have HBY:=Lib.hid (hby.ext he)
   clear hby
   go_wp2_with fail
   refine (own_bytesV _ x wr HBY.out hxl).to fun r w2 e2 hr=>?_
   obtain ⟨ra,rc,rfl⟩:=own_slice hr
   have hown2:=owns_ext ho e2
   have hle : evs.length = bl.length:=by have:=ho.1; simpa using this
   have c5 : w2.cell? ⟨g,k,none⟩ = some (evs[k]'(by omega)):=by
    have q:=(Row.of_owns hown2)
    obtain ⟨_,ao2,cap2,eq2,_,_,_,q5⟩:=q
    obtain ⟨b3,o3,e3,q6⟩:=q5 k _ (List.getElem?_eq_getElem (by omega))
    simp only [Value.slice.injEq] at eq2
    rw [← eq2.1] at e3
    simp only [Option.some.injEq,Addr.mk.injEq,and_true] at e3
    obtain ⟨rfl,rfl⟩:=e3
    simpa using q6
   have f5 : w2.frozen? ⟨g,k,none⟩ = false:=hown2.frozenAt _
   have hr2:=Lib.hid (owns_base hr (b2:=g) (by have:=he.size; have:=HG.out; omega))
   have he2:=he.trans e2
   have E2:=Lib.hid e2
   clear hcell ho e2 he hr
   go_wp2
   go_roundw
   case rel =>
    have hst:=hown2.stored k (.slice ra x.length rc)
    refine ⟨k + 1,_,by omega,by go_num,hst.1,fun j b hj hb=>?_,he2.setCell (by rw [HG.out]; exact Nat.le_refl _) _⟩
    by_cases hjk : j = k
    ·subst hjk
     have hb2 : bl[j]? = some b:=hb
     rw [HX.out] at hb2
     cases hb2
     refine ⟨_,List.getElem?_set_self (by omega),?_⟩
     exact hr2.out.kept hst.2 (own_types hr2.out hown2 (by decide))
    ·obtain ⟨ev,h3,h4⟩:=HALL.out j b (by omega) hb
     refine ⟨ev,by rw [List.getElem?_set_ne (fun e=>hjk e.symm)]; exact h3,?_⟩
     have h5:=owns_ext h4 E2.out
     exact h5.kept hst.2 (own_types h5 hown2 (by decide))
   case measure=>simp [intOf]; omega
  ·have hkl : k = bl.length:=by omega
   subst hkl
   go_wp2
   go_ret
   exact ⟨_,rfl,he,⟨evs,by rw [HG.out]; exact ho,fun i b hb=>by rw [HG.out]; exact HALL.out i b (List.getElem?_eq_some_iff.1 hb).1 hb⟩,_,rfl⟩

/-- What is described lies where the row does. -/
theorem rd_owns_in {base e size n : Nat} {v : Value} {cs : List Value} {w : World} {B : Nat → Prop} (h : w.ownsRow base e size v n cs) (hB : ∀ g,v.ownBlock = some g → B g) : Rd B (fun w=>Row w size v n cs) w:=fun w2 h2=>by
 refine Row.heap (Row.of_owns h) (fun j u b off hj ⟨m,cap,e⟩=>?_)
 rcases h.2 with ⟨rfl,_⟩ | ⟨g,cap',cur,rfl,hb,hg,_⟩
 ·cases e
 ·simp at e
  obtain ⟨⟨rfl,_⟩,_⟩:=e
  exact h2 g (hB g rfl) (Array.getElem?_eq_some_iff.1 hg).1
theorem OwnBox.rd {base : Nat} {w : World} {u : Value} {bl : List (List UInt8)} {B : Nat → Prop} (h : OwnBox base w u bl) (hB : ∀ g,base ≤ g → (∀ cs t,w.heap[g]? = some (.cells cs t (0,0)) → t = 24 ∨ t = 5) → B g) : Rd B (fun w=>RowOf 1 elBs w u bl) w:=by
 obtain ⟨evs,h1,h2⟩:=h
 have hl : evs.length = bl.length:=by have:=h1.1; simpa using this
 have hin : ∀ {e size n : Nat} {v : Value} {cs : List Value},w.ownsRow base e size v n cs → (e = 24 ∨ e = 5) → ∀ g,v.ownBlock = some g → B g:=fun {e size n v cs} ho he g hg=>by
  refine hB g (ho.lt g hg).1 (fun cs' t' hc=>?_)
  by_cases hne : e = t'
  ·rw [← hne]; exact he
  ·exact absurd hg (own_ne ho hc hne)
 have r1:=rd_owns_in h1 (hin h1 (.inl rfl))
 have r2 : Rd B (fun w=>∀ (i : Nat) (b : List UInt8) (ev : Value),bl[i]? = some b → evs[i]? = some ev → Bytes w ev b) w:=fun w2 hk i b ev hb hev=>by
  obtain ⟨ev',h3,h4⟩:=h2 i b hb
  rw [hev] at h3
  cases h3
  exact rd_owns_in h4 (hin h4 (.inr rfl)) w2 hk
 refine (r1.and r2).imp fun w' hw=>⟨evs.map (fun e=>[e]),⟨by simp [hl],fun i c x hc hx=>?_⟩,?_⟩
 ·rw [List.getElem?_map] at hc
  cases he : evs[i]? with
  | none=>rw [he] at hc; cases hc
  | some ev =>
   rw [he] at hc
   simp at hc
   subst hc
   exact ⟨rfl,ev,rfl,hw.2 i x ev hx he⟩
 ·have hf : ∀ l : List Value,(l.map fun e=>[e]).flatten = l:=fun l=>by
   induction l with
   | nil=>rfl
   | cons a l ih=>rw [List.map_cons,List.flatten_cons,ih]; rfl
  rw [hf]
  exact hw.1
theorem OwnBox.ext {base : Nat} {w w' : World} {u : Value} {bl : List (List UInt8)} (h : OwnBox base w u bl) (he : Ext w w') : OwnBox base w' u bl:=by
 obtain ⟨evs,h1,h2⟩:=h
 refine ⟨evs,owns_ext h1 he,fun i b hb=>?_⟩
 obtain ⟨ev,h3,h4⟩:=h2 i b hb
 exact ⟨ev,h3,owns_ext h4 he⟩
theorem OwnBox.low {base b2 : Nat} {w : World} {u : Value} {bl : List (List UInt8)} (h : OwnBox base w u bl) (hle : b2 ≤ base) : OwnBox b2 w u bl:=by
 obtain ⟨evs,h1,h2⟩:=h
 refine ⟨evs,owns_base h1 hle,fun i b hb=>?_⟩
 obtain ⟨ev,h3,h4⟩:=h2 i b hb
 exact ⟨ev,h3,owns_base h4 hle⟩
theorem OwnBox.kept {base : Nat} {w w' : World} {u : Value} {bl : List (List UInt8)} (h : OwnBox base w u bl) {b : Nat} (hg : w.grownBy w' (some b)) {cs : Array Value} {t : TypeId} (hb : w.heap[b]? = some (.cells cs t (0,0))) (hne : (24 : Nat) ≠ t) (hne2 : (5 : Nat) ≠ t) : OwnBox base w' u bl:=by
 obtain ⟨evs,h1,h2⟩:=h
 refine ⟨evs,h1.kept hg (.inr (own_ne h1 hb hne)),fun i b hb'=>?_⟩
 obtain ⟨ev,h3,h4⟩:=h2 i b hb'
 exact ⟨ev,h3,h4.kept hg (.inr (own_ne h4 hb hne2))⟩

end Go.Proofs.Ytdmipnnfoolelae

namespace Go.Proofs.Ytdmipnnfoolelae
open Go.RowKit Go.Mk

/-- A server's box and plan in memory of their own. -/
structure OwnSv (base : Nat) (w : World) (box plan : Value) (v : Sv) : Prop where
 box : OwnBox base w box v.box
 plan : w.ownsRow base 97 2 plan v.plan.length (cells2 v.plan)
theorem OwnSv.ext {base : Nat} {w w' : World} {box plan : Value} {v : Sv} (h : OwnSv base w box plan v) (he : Ext w w') : OwnSv base w' box plan v:=⟨h.box.ext he,owns_ext h.plan he⟩
theorem OwnSv.low {base b2 : Nat} {w : World} {box plan : Value} {v : Sv} (h : OwnSv base w box plan v) (hb : b2 ≤ base) : OwnSv b2 w box plan v:=⟨h.box.low hb,owns_base h.plan hb⟩
theorem OwnBox.slice {base : Nat} {w : World} {u : Value} {bl : List (List UInt8)} (h : OwnBox base w u bl) : ∃ ao cap,u = .slice ao bl.length cap:=by
 obtain ⟨evs,h1,_⟩:=h
 exact own_slice h1

end Go.Proofs.Ytdmipnnfoolelae

namespace Go.Proofs.Ytdmipnnfoolelae
open Go.RowKit Go.Mk

/-- What is in memory of its own is described wherever no box lies. -/
theorem OwnSv.rd {base : Nat} {w : World} {box plan : Value} {v : Sv} {B : Nat → Prop} (h : OwnSv base w box plan v) (hB : ∀ g,base ≤ g → (∀ cs t,w.heap[g]? = some (.cells cs t (0,0)) → t = 24 ∨ t = 5 ∨ t = 97) → B g) :
  Rd B (fun w=>RowOf 1 elBs w box v.box) w ∧ Rd B (fun w=>Writes w plan v.plan) w:=by
 refine ⟨h.box.rd fun g hg ht=>hB g hg fun cs t hc=>?_,rd_owns_in h.plan fun g hg=>hB g (h.plan.lt g hg).1 fun cs t hc=>?_⟩
 ·rcases ht cs t hc with e | e
  ·exact .inl e
  ·exact .inr (.inl e)
 ·by_cases hne : (97 : Nat) = t
  ·exact .inr (.inr hne.symm)
  ·exact absurd hg (own_ne h.plan hc hne)
theorem OwnBox.snoc {base : Nat} {w : World} {u ev : Value} {bl : List (List UInt8)} {b : List UInt8} {evs : List Value} (h : ∀ (i : Nat) (b : List UInt8),bl[i]? = some b → ∃ ev,evs[i]? = some ev ∧ w.ownsRow base 5 1 ev b.length (b.map U)) (hl : evs.length = bl.length) (hu : w.ownsRow base 24 1 u (bl.length + 1) (evs ++ [ev])) (he : w.ownsRow base 5 1 ev b.length (b.map U)) : OwnBox base w u (bl ++ [b]):=by
 refine ⟨evs ++ [ev],by rw [List.length_append]; exact hu,fun i x hx=>?_⟩
 by_cases hi : i < bl.length
 ·rw [List.getElem?_append_left hi] at hx
  obtain ⟨e2,h3,h4⟩:=h i x hx
  exact ⟨e2,by rw [List.getElem?_append_left (by omega)]; exact h3,h4⟩
 ·rw [List.getElem?_append_right (by omega)] at hx
  have h0 : i - bl.length = 0:=by
   have:=(List.getElem?_eq_some_iff.1 hx).1
   simp at this
   omega
  rw [h0] at hx
  simp at hx
  subst hx
  exact ⟨ev,by rw [List.getElem?_append_right (by omega),show i - evs.length = 0 by omega]; rfl,he⟩
theorem OwnBox.list {base : Nat} {w : World} {u : Value} {bl : List (List UInt8)} (h : OwnBox base w u bl) : ∃ evs : List Value,evs.length = bl.length ∧ w.ownsRow base 24 1 u bl.length evs ∧ ∀ (i : Nat) (b : List UInt8),bl[i]? = some b → ∃ ev,evs[i]? = some ev ∧ w.ownsRow base 5 1 ev b.length (b.map U):=by
 obtain ⟨evs,h1,h2⟩:=h
 exact ⟨evs,by have:=h1.1; simpa using this,h1,h2⟩
theorem monoOwnBox (base : Nat) (bl : List (List UInt8)) : ∀ v,MonoP (fun w=>OwnBox base w v bl):=fun _ _ _ he h=>h.ext he

end Go.Proofs.Ytdmipnnfoolelae

namespace Go.Proofs.Ytdmipnnfoolelae
open Go.RowKit Go.Mk

theorem Try.infoCallG : (Try.prog.info? 34).map (fun i=>(i.zero,i.size,i.bytes)) = some (some (.agg #[.int .i64 0,.int .i64 0,.int .i64 0,.int .i64 0]),4,32):=by kernel_rfl
theorem Try.infoReplyG : (Try.prog.info? 39).map (fun i=>(i.zero,i.size,i.bytes)) = some (some (.agg #[.int .i64 0,.int .i64 0]),2,16):=by kernel_rfl
def cellsCl (l : List Cl) : List Value:=l.flatMap fun x=>[I x.kind,I x.name,I x.other,I x.n]
theorem length_cellsCl (l : List Cl) : (cellsCl l).length = l.length * 4:=by
 unfold cellsCl
 induction l with
 | nil=>rfl
 | cons p l ih=>simp [List.flatMap_cons,ih]; omega
theorem cellsCl_one (l : List Cl) : ∀ u ∈ cellsCl l,u.oneCell' = true:=by
 intro u hu
 unfold cellsCl at hu
 rw [List.mem_flatMap] at hu
 obtain ⟨p,_,hp⟩:=hu
 simp at hp
 rcases hp with rfl | rfl | rfl | rfl <;> rfl
theorem rowOf_cls {w : World} {v : Value} {l : List Cl} : RowOf 4 elCl w v l ↔ Row w 4 v l.length (cellsCl l):=rowOf_flat (f:=fun (x : Cl)=>[I x.kind,I x.name,I x.other,I x.n]) (fun _=>rfl)
theorem rd_cls {base e n : Nat} {v : Value} {l : List Cl} {w : World} (h : w.ownsRow base e 4 v n (cellsCl l)) : Rd (fun k=>base ≤ k) (fun w=>RowOf 4 elCl w v l) w:=by
 have hl : l.length = n:=by have:=h.1; rw [length_cellsCl] at this; omega
 subst hl
 exact (rd_owns h).imp fun w h=>rowOf_cls.2 h

set_option maxRecDepth 100000 in
set_option maxHeartbeats 400000 in
theorem own_callsG (v : Value) (xs : List Cl) (w : World) (hv : RowOf 4 elCl w v xs) (hr : xs.length * 32 ≤ 140737488355328) :
  Gives Try.prog 35 #[v] w fun r w'=>w'.ownsRow w.heap.size 34 4 r xs.length (cellsCl xs) ∧ r = .slice (some ⟨w.heap.size,0,none⟩) xs.length xs.length:=by
 unfold Gives
 obtain ⟨i0,hi,hz0,hz1,hz2⟩:=info_parts Try.infoCallG
 have hsz : (Try.prog.info? 34).map (·.size) = some 4:=by rw [hi]; simp [hz1]
 have hrow : Row w 4 v xs.length (cellsCl xs):=rowOf_cls.1 hv
 clear hv
 obtain ⟨hlen,ao,cap,rfl,h1,h2,h0,h3⟩:=hrow
 unfold maxLen at h2
 go_enter Try.func35,Try.ntmps35
 go_wp2_with (at_make; refine wpList_make_full _ rfl _ _ 48 rfl w.heap.size 34 i0 (.agg #[.int .i64 0,.int .i64 0,.int .i64 0,.int .i64 0]) 4 Try.underlying48 hi hz0 hz1 .i64 .i64 _ _ xs.length rfl rfl rfl rfl (by rw [hz2]; omega) (by unfold maxLen; omega) (Nat.le_refl _) ?_; intro w1 hown hgrow)
 have he1 : Ext w w1:=(Ext.refl w).grown hgrow (fun k hk=>by cases hk)
 obtain ⟨w2,hrun,hown2,hgrow2⟩:=run_copy_sized (P:=Try.prog) w1 48 3 34 4 Try.underlying48 hsz w.heap.size w.heap.size xs.length _ (cellsCl xs) _ hown (Row.ext ⟨hlen,ao,cap,rfl,h1,h2,h0,h3⟩ he1) (cellsCl_one xs)
 have he2 : Ext w w2:=he1.grown hgrow2 (fun k hk=>by cases hk; exact Nat.le_refl _)
 rw [hrun]
 clear hrun hown hgrow hgrow2 he1 h3
 go_wp2
 go_ret
 exact ⟨_,rfl,he2,hown2,rfl⟩

set_option maxRecDepth 100000 in
set_option maxHeartbeats 400000 in
theorem own_repliesG (v : Value) (xs : List Rp) (w : World) (hv : RowOf 2 elRp w v xs) (hr : xs.length * 16 ≤ 140737488355328) :
  Gives Try.prog 37 #[v] w fun r w'=>w'.ownsRow w.heap.size 39 2 r xs.length (cellsR xs) ∧ r = .slice (some ⟨w.heap.size,0,none⟩) xs.length xs.length:=by
 unfold Gives
 obtain ⟨i0,hi,hz0,hz1,hz2⟩:=info_parts Try.infoReplyG
 have hsz : (Try.prog.info? 39).map (·.size) = some 2:=by rw [hi]; simp [hz1]
 have hrow : Row w 2 v xs.length (cellsR xs):=rowOf_rps.1 hv
 clear hv
 obtain ⟨hlen,ao,cap,rfl,h1,h2,h0,h3⟩:=hrow
 unfold maxLen at h2
 go_enter Try.func37,Try.ntmps37
 go_wp2_with (at_make; refine wpList_make_full _ rfl _ _ 49 rfl w.heap.size 39 i0 (.agg #[.int .i64 0,.int .i64 0]) 2 Try.underlying49 hi hz0 hz1 .i64 .i64 _ _ xs.length rfl rfl rfl rfl (by rw [hz2]; omega) (by unfold maxLen; omega) (Nat.le_refl _) ?_; intro w1 hown hgrow)
 have he1 : Ext w w1:=(Ext.refl w).grown hgrow (fun k hk=>by cases hk)
 obtain ⟨w2,hrun,hown2,hgrow2⟩:=run_copy_sized (P:=Try.prog) w1 49 3 39 2 Try.underlying49 hsz w.heap.size w.heap.size xs.length _ (cellsR xs) _ hown (Row.ext ⟨hlen,ao,cap,rfl,h1,h2,h0,h3⟩ he1) (cellsR_one xs)
 have he2 : Ext w w2:=he1.grown hgrow2 (fun k hk=>by cases hk; exact Nat.le_refl _)
 rw [hrun]
 clear hrun hown hgrow hgrow2 he1 h3
 go_wp2
 go_ret
 exact ⟨_,rfl,he2,hown2,rfl⟩

/-- How much a client may hold. -/
def SmallC (c : Cn) : Prop:=c.calls.length ≤ 1000000 ∧ c.box.length ≤ 1000000 ∧ (∀ b ∈ c.box,b.length ≤ 140737488355328) ∧ c.got.length ≤ 1000000

/-- A client in memory of its own. -/
structure OwnCn (base : Nat) (w : World) (calls box got : Value) (c : Cn) : Prop where
 calls : w.ownsRow base 34 4 calls c.calls.length (cellsCl c.calls)
 box : OwnBox base w box c.box
 got : w.ownsRow base 39 2 got c.got.length (cellsR c.got)

set_option maxRecDepth 100000 in
set_option maxHeartbeats 2000000 in
theorem OwnClient_own (c : Cn) (calls box got : Value) (w : World) (h1 : RowOf 4 elCl w calls c.calls) (h2 : RowOf 1 elBs w box c.box) (h3 : RowOf 2 elRp w got c.got) (hs : SmallC c) :
  Gives Try.prog 17 #[.agg #[calls,I c.at_,.bool c.sent,I c.gen,box,got]] w fun r w'=>∃ kg xg gg,r = .agg #[.slice (some ⟨kg,0,none⟩) c.calls.length c.calls.length,I c.at_,.bool c.sent,I c.gen,.slice (some ⟨xg,0,none⟩) c.box.length c.box.length,.slice (some ⟨gg,0,none⟩) c.got.length c.got.length] ∧ OwnCn w.heap.size w' (.slice (some ⟨kg,0,none⟩) c.calls.length c.calls.length) (.slice (some ⟨xg,0,none⟩) c.box.length c.box.length) (.slice (some ⟨gg,0,none⟩) c.got.length c.got.length) c:=by
 unfold Gives
 have HS:=Lib.hid hs
 clear hs
 obtain ⟨ka,kc,rfl⟩:=rowOf_slice h1
 obtain ⟨xa,xc,rfl⟩:=rowOf_slice h2
 obtain ⟨ga,gc,rfl⟩:=rowOf_slice h3
 have H1:=Lib.hid h1
 have H2:=Lib.hid h2
 have H3:=Lib.hid h3
 clear h1 h2 h3
 have EW:=Lib.hid (Ext.refl w)
 go_enter Try.func17,Try.ntmps17
 go_wp2_with ((with_reducible refine zst (L:=[44,41,31,51]) ?_ ?_); exact rfl)
 unfold Hid
 refine wpList_boxB rfl 51 (.tmp 0) rfl #[.slice ka c.calls.length kc,I c.at_,.bool c.sent,I c.gen,.slice xa c.box.length xc,.slice ga c.got.length gc] rfl (fun b0 w1_ M1=>?_)
 have B_b0:=zmb M1
 replace EW:=zet EW M1
 go_wp2_with ((with_reducible refine zst (L:=[44,41,31,51]) ?_ ?_); exact rfl)
 unfold Hid
 refine wpList_allocB rfl 51 #[.slice none 0 0,I 0,.bool false,I 0,.slice none 0 0,.slice none 0 0] (by kernel_rfl) (fun b1 w2_ M2=>?_)
 have D_b0_b1:=zld B_b0 M2
 replace B_b0:=zmo M2 B_b0
 have B_b1:=zmb M2
 replace EW:=zet EW M2
 have O_b0 : Hid (w.heap.size ≤ b0):=by unfold Hid; have q:=M1.out.at_; omega
 have O_b1 : Hid (w.heap.size ≤ b1):=by unfold Hid; have q:=D_b0_b1.out; have q2:=O_b0.out; omega
 have cq:=cell_of (i:=0) B_b0.out rfl
 go_wp2_with fail
 clear cq
 refine (own_callsG _ c.calls w2_ (H1.out.ext monoCl EW.out) (by have:=HS.out.1; omega)).to fun r wa ea hr=>?_
 obtain ⟨kg,rfl⟩ : ∃ g,r = .slice (some ⟨g,0,none⟩) c.calls.length c.calls.length:=⟨_,hr.2⟩
 have OPa:=Lib.hid (owns_base (b2:=w.heap.size) hr.1 EW.out.size)
 clear hr
 replace B_b0:=zbx B_b0 ea
 replace B_b1:=zbx B_b1 ea
 replace EW:=Lib.hid (EW.out.trans ea)
 clear ea
 go_wp2_with ((with_reducible refine zst (L:=[44,41,31,51]) ?_ ?_); exact rfl)
 unfold Hid
 refine wpList_storeP rfl 48 (.tmp 6) (.tmp 5) rfl b0 0 rfl [.slice (some ⟨kg,0,none⟩) c.calls.length c.calls.length] (rfl) B_b0 rfl (by kernel_rfl) rfl [.slice (some ⟨kg,0,none⟩) c.calls.length c.calls.length,I c.at_,.bool c.sent,I c.gen,.slice xa c.box.length xc,.slice ga c.got.length gc] rfl (fun w3_ M3=>?_)
 replace OPa:=Lib.hid (OPa.out.kept M3.out.grown (.inr (own_ne OPa.out B_b0.out (by decide))))
 replace B_b0:=zwb M3
 replace B_b1:=zwg M3 B_b1 D_b0_b1
 replace EW:=zwe M3 EW O_b0
 have cq:=cell_of (i:=4) B_b0.out rfl
 go_wp2_with fail
 clear cq
 refine (ownBox_any _ c.box w3_ (H2.out.ext monoBs EW.out) (by have:=HS.out.2.1; omega) HS.out.2.2.1).to fun r wb eb hr=>?_
 obtain ⟨xg,rfl⟩:=hr.2
 have OB:=Lib.hid (hr.1.low (b2:=w.heap.size) EW.out.size)
 clear hr
 replace B_b0:=zbx B_b0 eb
 replace B_b1:=zbx B_b1 eb
 replace OPa:=Lib.hid (owns_ext OPa.out eb)
 replace EW:=Lib.hid (EW.out.trans eb)
 clear eb
 go_wp2_with ((with_reducible refine zst (L:=[44,41,31,51]) ?_ ?_); exact rfl)
 unfold Hid
 refine wpList_storeP rfl 32 (.tmp 10) (.tmp 9) rfl b0 4 rfl [.slice (some ⟨xg,0,none⟩) c.box.length c.box.length] (rfl) B_b0 rfl (by kernel_rfl) rfl [.slice (some ⟨kg,0,none⟩) c.calls.length c.calls.length,I c.at_,.bool c.sent,I c.gen,.slice (some ⟨xg,0,none⟩) c.box.length c.box.length,.slice ga c.got.length gc] rfl (fun w4_ M4=>?_)
 replace OPa:=Lib.hid (OPa.out.kept M4.out.grown (.inr (own_ne OPa.out B_b0.out (by decide))))
 replace OB:=Lib.hid (OB.out.kept M4.out.grown B_b0.out (by decide) (by decide))
 replace B_b0:=zwb M4
 replace B_b1:=zwg M4 B_b1 D_b0_b1
 replace EW:=zwe M4 EW O_b0
 have cq:=cell_of (i:=5) B_b0.out rfl
 go_wp2_with fail
 clear cq
 refine (own_repliesG _ c.got w4_ (H3.out.ext monoRp EW.out) (by have:=HS.out.2.2.2; omega)).to fun r wc ec hr=>?_
 obtain ⟨gg,rfl⟩ : ∃ g,r = .slice (some ⟨g,0,none⟩) c.got.length c.got.length:=⟨_,hr.2⟩
 have OPg:=Lib.hid (owns_base (b2:=w.heap.size) hr.1 EW.out.size)
 clear hr
 replace B_b0:=zbx B_b0 ec
 replace B_b1:=zbx B_b1 ec
 replace OPa:=Lib.hid (owns_ext OPa.out ec)
 replace OB:=Lib.hid (OB.out.ext ec)
 replace EW:=Lib.hid (EW.out.trans ec)
 clear ec
 go_wp2_with ((with_reducible refine zst (L:=[44,41,31,51]) ?_ ?_); exact rfl)
 unfold Hid
 refine wpList_storeP rfl 49 (.tmp 14) (.tmp 13) rfl b0 5 rfl [.slice (some ⟨gg,0,none⟩) c.got.length c.got.length] (rfl) B_b0 rfl (by kernel_rfl) rfl [.slice (some ⟨kg,0,none⟩) c.calls.length c.calls.length,I c.at_,.bool c.sent,I c.gen,.slice (some ⟨xg,0,none⟩) c.box.length c.box.length,.slice (some ⟨gg,0,none⟩) c.got.length c.got.length] rfl (fun w5_ M5=>?_)
 replace OPa:=Lib.hid (OPa.out.kept M5.out.grown (.inr (own_ne OPa.out B_b0.out (by decide))))
 replace OB:=Lib.hid (OB.out.kept M5.out.grown B_b0.out (by decide) (by decide))
 replace OPg:=Lib.hid (OPg.out.kept M5.out.grown (.inr (own_ne OPg.out B_b0.out (by decide))))
 replace B_b0:=zwb M5
 replace B_b1:=zwg M5 B_b1 D_b0_b1
 replace EW:=zwe M5 EW O_b0
 go_wp2_with ((with_reducible refine zst (L:=[44,41,31,51]) ?_ ?_); exact rfl)
 unfold Hid
 refine wpList_loadW rfl 51 (.tmp 1) rfl b0 rfl B_b0 Try.underlying51 (by kernel_rfl) (fun v15 H_v15=>?_)
 go_wp2_with ((with_reducible refine zst (L:=[44,41,31,51]) ?_ ?_); exact rfl)
 unfold Hid
 refine wpList_storeW rfl 51 (.tmp 2) (.tmp 15) rfl b1 rfl _ (zcv H_v15) B_b1 rfl (by kernel_rfl) rfl (fun w6_ M6=>?_)
 replace OPa:=Lib.hid (OPa.out.kept M6.out.grown (.inr (own_ne OPa.out B_b1.out (by decide))))
 replace OB:=Lib.hid (OB.out.kept M6.out.grown B_b1.out (by decide) (by decide))
 replace OPg:=Lib.hid (OPg.out.kept M6.out.grown (.inr (own_ne OPg.out B_b1.out (by decide))))
 replace B_b0:=zwl M6 B_b0 D_b0_b1
 replace B_b1:=zwb M6
 replace EW:=zwe M6 EW O_b1
 go_wp2
 have z0:=run_box (P:=Try.prog) 51 B_b1.out Try.underlying51 (by kernel_rfl)
 refine bodyPost_ret (by simp [results,Try.results17,asAddr,z0,Act.put]; rfl) rfl ?_
 exact ⟨_,rfl,EW.out,_,_,_,rfl,⟨OPa.out,OB.out,OPg.out⟩⟩

end Go.Proofs.Ytdmipnnfoolelae

namespace Go.Proofs.Ytdmipnnfoolelae
open Go.RowKit Go.Mk

theorem GoodC.small {c : Cn} (h : GoodC c) : SmallC c:=⟨by have:=h.calls.1; omega,by have:=h.box; omega,h.bytes,by have:=h.got; omega⟩

set_option maxRecDepth 100000 in
set_option maxHeartbeats 400000 in
theorem Clone_own (v : Value) (xs : List UInt8) (w : World) (hv : Bytes w v xs) (hr : xs.length ≤ 140737488355328) :
  Gives Try.prog 18 #[v] w fun r w'=>w'.ownsRow w.heap.size 5 1 r xs.length (xs.map U):=by
 unfold Gives
 obtain ⟨i0,hi,hz0,hz1,hz2⟩:=info_parts Try.infoByte
 have HV:=Lib.hid hv
 obtain ⟨hlen,ao,cap,rfl,h1,h2,h0,h3⟩:=hv
 clear hlen h2 h3
 cases ao with
 | none =>
  have hc:=h0 rfl
  subst hc
  obtain rfl : xs = []:=List.eq_nil_of_length_eq_zero (by omega)
  clear h0 h1 hi hz0 hz1 hz2
  have qn : ∀ w : World,(binOp .eql 24 (.slice none 0 0) (.slice none 0 0)).run Try.prog w = .ok (.bool true) w:=fun w=>run_eql_nil_slice w 24 5 none 0 0 0 0 Try.underlying24
  go_enter Try.func18,Try.ntmps18
  go_wp2
  go_ret
  exact ⟨_,rfl,Ext.refl _,World.ownsRow_nil _ _ _ _⟩
 | some ad =>
  clear h0 h1
  have HI:=Lib.hid hi
  clear hi
  have qn : ∀ w : World,(binOp .eql 24 (.slice (some ad) xs.length cap) (.slice none 0 0)).run Try.prog w = .ok (.bool false) w:=fun w=>by
   simp only [binOp]
   simp [Op.equal,Op.maxDepth,Lib.run_equalIn_slice_nil w 9999 24 5 (some ad) xs.length cap 0 0 Try.underlying24]
  go_enter Try.func18,Try.ntmps18
  go_wp2_with (at_builtin; refine stop_at ?_)
  unfold Hid
  refine wpList_append_full rfl (.tmp 5) (.tmp 6) 24 rfl w.heap.size 5 i0 (.int .u8 0) 1 1 Try.underlying24 HI.out hz0 hz1 hz2 rfl (by decide) _ 0 [] rfl (full_lit #[] 0 (Nat.le_refl _) (by decide) rfl) (.slice (some ad) xs.length cap) rfl xs.length (xs.map U) (HV.out.ext ((Ext.refl w).alloc _)) (fun u hu=>by obtain ⟨x,_,rfl⟩:=List.mem_map.1 hu; rfl) (by omega) (by decide) (by simp) ?_
  intro v7 w2 ho e2
  simp only [Nat.zero_add,List.nil_append] at ho
  go_wp2
  go_ret
  exact ⟨_,rfl,((Ext.refl w).alloc _).trans e2,ho⟩

theorem OwnCn.rd {base s : Nat} {w : World} {calls box got : Value} {c : Cn} {A : Nat → Prop} (h : OwnCn base w calls box got c) (hs : s ≤ base) : Rd (fun k=>A k ∨ s ≤ k) (fun w=>elCn w [calls,I c.at_,.bool c.sent,I c.gen,box,got] c) w :=
 cn_rd (c:=c) ((rd_cls h.calls).widen fun _ _ h=>.inr (Nat.le_trans hs h)) (h.box.rd fun _ h _=>.inr (Nat.le_trans hs h)) ((rd_rps h.got).widen fun _ _ h=>.inr (Nat.le_trans hs h))

set_option maxRecDepth 100000 in
set_option maxHeartbeats 4000000 in
theorem ComeC_keeps (c : Cn) (calls box got bv : Value) (b : List UInt8) (w : World) (A : Nat → Prop) (hc : Rd A (fun w=>RowOf 4 elCl w calls c.calls) w) (hb : Rd A (fun w=>RowOf 1 elBs w box c.box) w) (hg : Rd A (fun w=>RowOf 2 elRp w got c.got) w) (hv : Rd A (fun w=>Bytes w bv b) w) (hgd : GoodC c) (hbl : b.length ≤ 140737488355328) :
  Keeps Try.prog 8 #[.agg #[calls,I c.at_,.bool c.sent,I c.gen,box,got],bv] w A (fun r w'=>Agg elCn (comeCn c b) r w'):=by
 unfold Keeps
 have HS:=Lib.hid hgd.small
 have HBX:=Lib.hid hgd.box
 have HBL:=Lib.hid hbl
 clear hgd hbl
 obtain ⟨xa,xc,rfl⟩:=rowOf_slice hb.out
 obtain ⟨ka,kc,rfl⟩:=rowOf_slice hc.out
 obtain ⟨ga,gc,rfl⟩:=rowOf_slice hg.out
 obtain ⟨va,vc,rfl⟩:=row_slice hv.out
 have H1:=Lib.hid hc.out
 have H2:=Lib.hid hb.out
 have H3:=Lib.hid hg.out
 have HV:=Lib.hid hv.out
 clear hb hc hg hv
 have EW:=Lib.hid (Ext.refl w)
 obtain ⟨i0,hi,hz0,hz1,hz2⟩:=info_parts Try.infoBs
 have HI:=Lib.hid hi
 clear hi
 have hX : comeCn c b = if c.box.length < 3 then { c with box:=c.box ++ [b] } else c:=rfl
 rw [hX]
 clear hX
 by_cases h3 : c.box.length < 3
 case neg =>
  rw [if_neg h3]
  have h3i : ¬ ((c.box.length : Int) < 3):=by omega
  clear h3
  go_enter Try.func8,Try.ntmps8
  go_wp2_with ((with_reducible refine zst (L:=[44,41,31,51]) ?_ ?_); exact rfl)
  unfold Hid
  refine wpList_boxB rfl 51 (.tmp 0) rfl #[.slice ka c.calls.length kc,I c.at_,.bool c.sent,I c.gen,.slice xa c.box.length xc,.slice ga c.got.length gc] rfl (fun b0 w1_ M1=>?_)
  have B_b0:=zmb M1
  replace EW:=zet EW M1
  have O_b0 : Hid (w.heap.size ≤ b0):=by unfold Hid; have q:=M1.out.at_; omega
  go_wp2_with ((with_reducible refine zst (L:=[44,41,31,51]) ?_ ?_); exact rfl)
  unfold Hid
  refine wpList_allocB rfl 51 #[.slice none 0 0,I 0,.bool false,I 0,.slice none 0 0,.slice none 0 0] (by kernel_rfl) (fun b1 w2_ M2=>?_)
  have D_b0_b1:=zld B_b0 M2
  replace B_b0:=zmo M2 B_b0
  have B_b1:=zmb M2
  replace EW:=zet EW M2
  have O_b1 : Hid (w.heap.size ≤ b1):=by unfold Hid; have q:=D_b0_b1.out; have q2:=O_b0.out; omega
  go_wp2_with ((with_reducible refine zst (L:=[44,41,31,51]) ?_ ?_); exact rfl)
  unfold Hid
  refine wpList_loadW rfl 51 (.tmp 2) rfl b0 rfl B_b0 Try.underlying51 (by kernel_rfl) (fun v6 H_v6=>?_)
  go_wp2_with fail
  rw [show _ = Value.agg #[.slice ka c.calls.length kc,I c.at_,.bool c.sent,I c.gen,.slice xa c.box.length xc,.slice ga c.got.length gc] from H_v6.out]
  clear H_v6
  refine (OwnClient_own c _ _ _ w2_ (H1.out.ext monoCl EW.out) (H2.out.ext monoBs EW.out) (H3.out.ext monoRp EW.out) HS.out).to fun r wo eo hr=>?_
  obtain ⟨kg,xg,gg,rfl,ho⟩:=hr
  have OPa:=Lib.hid (owns_base (b2:=w.heap.size) ho.calls EW.out.size)
  have OB:=Lib.hid (ho.box.low (b2:=w.heap.size) EW.out.size)
  have OPg:=Lib.hid (owns_base (b2:=w.heap.size) ho.got EW.out.size)
  clear ho
  replace B_b0:=zbx B_b0 eo
  replace B_b1:=zbx B_b1 eo
  replace EW:=Lib.hid (EW.out.trans eo)
  clear eo
  go_wp2_with ((with_reducible refine zst (L:=[44,41,31,51]) ?_ ?_); exact rfl)
  unfold Hid
  refine wpList_allocB rfl 51 #[.slice none 0 0,I 0,.bool false,I 0,.slice none 0 0,.slice none 0 0] (by kernel_rfl) (fun b2 w3_ M3=>?_)
  have D_b0_b2:=zld B_b0 M3
  have D_b1_b2:=zld B_b1 M3
  replace B_b0:=zmo M3 B_b0
  replace B_b1:=zmo M3 B_b1
  have B_b2:=zmb M3
  replace OPa:=Lib.hid (owns_ext OPa.out M3.out.ext)
  replace OB:=Lib.hid (OB.out.ext M3.out.ext)
  replace OPg:=Lib.hid (owns_ext OPg.out M3.out.ext)
  replace EW:=zet EW M3
  have O_b2 : Hid (w.heap.size ≤ b2):=by unfold Hid; have q:=D_b0_b2.out; have q2:=O_b0.out; omega
  go_wp2_with ((with_reducible refine zst (L:=[44,41,31,51]) ?_ ?_); exact rfl)
  unfold Hid
  refine wpList_storeW rfl 51 (.tmp 5) (.tmp 7) rfl b2 rfl [.slice (some ⟨kg,0,none⟩) c.calls.length c.calls.length,I c.at_,.bool c.sent,I c.gen,.slice (some ⟨xg,0,none⟩) c.box.length c.box.length,.slice (some ⟨gg,0,none⟩) c.got.length c.got.length] (rfl) B_b2 rfl (by kernel_rfl) rfl (fun w4_ M4=>?_)
  replace OPa:=Lib.hid (OPa.out.kept M4.out.grown (.inr (own_ne OPa.out B_b2.out (by decide))))
  replace OB:=Lib.hid (OB.out.kept M4.out.grown B_b2.out (by decide) (by decide))
  replace OPg:=Lib.hid (OPg.out.kept M4.out.grown (.inr (own_ne OPg.out B_b2.out (by decide))))
  replace B_b0:=zwl M4 B_b0 D_b0_b2
  replace B_b1:=zwl M4 B_b1 D_b1_b2
  replace B_b2:=zwb M4
  replace EW:=zwe M4 EW O_b2
  have c4:=cell_of (i:=4) B_b0.out rfl
  go_wp2_with ((with_reducible refine zst (L:=[44,41,31,51]) ?_ ?_); exact rfl)
  unfold Hid
  clear c4 h3i
  refine wpList_loadW rfl 51 (.tmp 5) rfl b2 rfl B_b2 Try.underlying51 (by kernel_rfl) (fun v19 H_v19=>?_)
  go_wp2_with ((with_reducible refine zst (L:=[44,41,31,51]) ?_ ?_); exact rfl)
  unfold Hid
  refine wpList_storeW rfl 51 (.tmp 4) (.tmp 19) rfl b1 rfl _ (zcv H_v19) B_b1 rfl (by kernel_rfl) rfl (fun w5_ M5=>?_)
  replace OPa:=Lib.hid (OPa.out.kept M5.out.grown (.inr (own_ne OPa.out B_b1.out (by decide))))
  replace OB:=Lib.hid (OB.out.kept M5.out.grown B_b1.out (by decide) (by decide))
  replace OPg:=Lib.hid (OPg.out.kept M5.out.grown (.inr (own_ne OPg.out B_b1.out (by decide))))
  replace B_b0:=zwl M5 B_b0 D_b0_b1
  replace B_b1:=zwb M5
  replace B_b2:=zwg M5 B_b2 D_b1_b2
  replace EW:=zwe M5 EW O_b1
  go_wp2
  have z0:=run_box (P:=Try.prog) 51 B_b1.out Try.underlying51 (by kernel_rfl)
  refine bodyPost_ret (by simp [results,Try.results8,asAddr,z0,Act.put]; rfl) rfl ?_
  exact ⟨_,rfl,EW.out,agg_rd ((⟨OPa.out,OB.out,OPg.out⟩ : OwnCn _ _ _ _ _ _).rd (Nat.le_refl _))⟩
 rw [if_pos h3]
 have h3i : (c.box.length : Int) < 3:=by omega
 clear h3
 go_enter Try.func8,Try.ntmps8
 go_wp2_with ((with_reducible refine zst (L:=[44,41,31,51]) ?_ ?_); exact rfl)
 unfold Hid
 refine wpList_boxB rfl 51 (.tmp 0) rfl #[.slice ka c.calls.length kc,I c.at_,.bool c.sent,I c.gen,.slice xa c.box.length xc,.slice ga c.got.length gc] rfl (fun b0 w1_ M1=>?_)
 have B_b0:=zmb M1
 replace EW:=zet EW M1
 have O_b0 : Hid (w.heap.size ≤ b0):=by unfold Hid; have q:=M1.out.at_; omega
 go_wp2_with ((with_reducible refine zst (L:=[44,41,31,51]) ?_ ?_); exact rfl)
 unfold Hid
 refine wpList_allocB rfl 51 #[.slice none 0 0,I 0,.bool false,I 0,.slice none 0 0,.slice none 0 0] (by kernel_rfl) (fun b1 w2_ M2=>?_)
 have D_b0_b1:=zld B_b0 M2
 replace B_b0:=zmo M2 B_b0
 have B_b1:=zmb M2
 replace EW:=zet EW M2
 have O_b1 : Hid (w.heap.size ≤ b1):=by unfold Hid; have q:=D_b0_b1.out; have q2:=O_b0.out; omega
 go_wp2_with ((with_reducible refine zst (L:=[44,41,31,51]) ?_ ?_); exact rfl)
 unfold Hid
 refine wpList_loadW rfl 51 (.tmp 2) rfl b0 rfl B_b0 Try.underlying51 (by kernel_rfl) (fun v6 H_v6=>?_)
 go_wp2_with fail
 rw [show _ = Value.agg #[.slice ka c.calls.length kc,I c.at_,.bool c.sent,I c.gen,.slice xa c.box.length xc,.slice ga c.got.length gc] from H_v6.out]
 clear H_v6
 refine (OwnClient_own c _ _ _ w2_ (H1.out.ext monoCl EW.out) (H2.out.ext monoBs EW.out) (H3.out.ext monoRp EW.out) HS.out).to fun r wo eo hr=>?_
 obtain ⟨kg,xg,gg,rfl,ho⟩:=hr
 have OPa:=Lib.hid (owns_base (b2:=w.heap.size) ho.calls EW.out.size)
 have OB:=Lib.hid (ho.box.low (b2:=w.heap.size) EW.out.size)
 have OPg:=Lib.hid (owns_base (b2:=w.heap.size) ho.got EW.out.size)
 clear ho
 replace B_b0:=zbx B_b0 eo
 replace B_b1:=zbx B_b1 eo
 replace EW:=Lib.hid (EW.out.trans eo)
 clear eo
 go_wp2_with ((with_reducible refine zst (L:=[44,41,31,51]) ?_ ?_); exact rfl)
 unfold Hid
 refine wpList_allocB rfl 51 #[.slice none 0 0,I 0,.bool false,I 0,.slice none 0 0,.slice none 0 0] (by kernel_rfl) (fun b2 w3_ M3=>?_)
 have D_b0_b2:=zld B_b0 M3
 have D_b1_b2:=zld B_b1 M3
 replace B_b0:=zmo M3 B_b0
 replace B_b1:=zmo M3 B_b1
 have B_b2:=zmb M3
 replace OPa:=Lib.hid (owns_ext OPa.out M3.out.ext)
 replace OB:=Lib.hid (OB.out.ext M3.out.ext)
 replace OPg:=Lib.hid (owns_ext OPg.out M3.out.ext)
 replace EW:=zet EW M3
 have O_b2 : Hid (w.heap.size ≤ b2):=by unfold Hid; have q:=D_b0_b2.out; have q2:=O_b0.out; omega
 go_wp2_with ((with_reducible refine zst (L:=[44,41,31,51]) ?_ ?_); exact rfl)
 unfold Hid
 refine wpList_storeW rfl 51 (.tmp 5) (.tmp 7) rfl b2 rfl [.slice (some ⟨kg,0,none⟩) c.calls.length c.calls.length,I c.at_,.bool c.sent,I c.gen,.slice (some ⟨xg,0,none⟩) c.box.length c.box.length,.slice (some ⟨gg,0,none⟩) c.got.length c.got.length] (rfl) B_b2 rfl (by kernel_rfl) rfl (fun w4_ M4=>?_)
 replace OPa:=Lib.hid (OPa.out.kept M4.out.grown (.inr (own_ne OPa.out B_b2.out (by decide))))
 replace OB:=Lib.hid (OB.out.kept M4.out.grown B_b2.out (by decide) (by decide))
 replace OPg:=Lib.hid (OPg.out.kept M4.out.grown (.inr (own_ne OPg.out B_b2.out (by decide))))
 replace B_b0:=zwl M4 B_b0 D_b0_b2
 replace B_b1:=zwl M4 B_b1 D_b1_b2
 replace B_b2:=zwb M4
 replace EW:=zwe M4 EW O_b2
 have c4:=cell_of (i:=4) B_b0.out rfl
 go_wp2_with fail
 clear c4 h3i
 have c1:=cell_of (i:=4) B_b2.out rfl
 have hcw:=c1
 refine wp_region_mono_tail 7 [none,none,none,some (.inr (fun r wx=>wx.ownsRow w.heap.size 5 1 r b.length (b.map U))),some (.inr (fun r wx=>∃ ev,Row wx 1 r 1 [ev] ∧ ev.oneCell' = true ∧ wx.ownsRow w.heap.size 5 1 ev b.length (b.map U))),some (.inr (fun r wx=>OwnBox w.heap.size wx r (c.box ++ [b]))),none] (by kernel_rfl) (by kernel_rfl) ?_ ?_
 ·exact ⟨trivial,trivial,trivial,monoOwns _ _ _ _ _,fun _ _ _ he ⟨ev,h1,h2,h3⟩=>⟨ev,h1.ext he,h2,owns_ext h3 he⟩,monoOwnBox _ _,trivial,trivial⟩
 iterate 1 (refine wpM_p (fun K hK=>?_); go_simp; first | refine hK _ ?_ | refine ⟨(fun h=>by cases h),hK _ ?_⟩; clear hK K)
 refine wpM_q (.slice (some ⟨xg,0,none⟩) c.box.length c.box.length) rfl (fun w' hw'=>by have q0:=hw'.cell hcw; go_simp) ?_
 refine wpM_norm (fun K hK=>?_); go_simp; refine hK _ ?_; clear hK K
 iterate 1 (refine wpM_p (fun K hK=>?_); go_simp; first | refine hK _ ?_ | refine ⟨(fun h=>by cases h),hK _ ?_⟩; clear hK K)
 refine wpM_l _ rfl (fun w' hw' hk=>?_) (fun v15=>?_)
 ·have hg:=(Clone_own _ b w' (HV.out.ext (EW.out.trans hw')) HBL.out).mono (fun r wx _ h=>owns_base (b2:=w.heap.size) h (Nat.le_trans EW.out.size hw'.size))
  clear hk
  unfold makes
  go_simp
  exact ⟨Ext.refl _,hg⟩
 refine wpM_norm (fun K hK=>?_); go_simp; refine hK _ ?_; clear hK K
 refine wpM_l _ rfl (fun w' hw' hk=>?_) (fun v16=>?_)
 ·have h17 : w'.ownsRow w.heap.size 5 1 v15 b.length (b.map U):=hk 15 (by decide)
  obtain ⟨ea,ec,rfl⟩:=own_slice h17
  clear hk
  unfold makes
  go_simp
  exact ⟨(Ext.refl _).alloc _,_,Row.of_owns (World.ownsRow_lit (base:=0) (size:=1) w' _ 1 (Nat.zero_le _) (by decide) rfl),rfl,h17.alloc _⟩
 refine wpM_norm (fun K hK=>?_); go_simp; refine hK _ ?_; clear hK K
 refine wpM_l _ rfl (fun w' hw' hk=>?_) (fun v17=>?_)
 ·obtain ⟨ev,h1,h2,h3⟩ : ∃ ev,Row w' 1 v16 1 [ev] ∧ ev.oneCell' = true ∧ w'.ownsRow w.heap.size 5 1 ev b.length (b.map U):=hk 16 (by decide)
  obtain ⟨evs,hl,hr1,hr2⟩:=(OB.out.ext hw').list
  obtain ⟨vv,ww,hrun,hoo,hee⟩:=run_append_full (P:=Try.prog) w' w.heap.size 32 32 24 i0 _ 1 24 Try.underlying32 HI.out hz0 hz1 hz2 rfl (by decide) (.slice (some ⟨xg,0,none⟩) c.box.length c.box.length) c.box.length evs ⟨xg,rfl,hr1⟩ v16 1 [ev] h1 (fun u hu=>by rw [List.mem_singleton.1 hu]; exact h2) (by have:=HBX.out; omega) (by decide) (Nat.le_trans EW.out.size hw'.size)
  exact makes_append rfl rfl rfl hrun hee (OwnBox.snoc (fun i x hx=>by obtain ⟨e2,q1,q2⟩:=hr2 i x hx; exact ⟨e2,q1,owns_ext q2 hee⟩) hl hoo (owns_ext h3 hee))
 refine wpM_norm (fun K hK=>?_); go_simp; refine hK _ ?_; clear hK K
 iterate 1 (refine wpM_p (fun K hK=>?_); go_simp; first | refine hK _ ?_ | refine ⟨(fun h=>by cases h),hK _ ?_⟩; clear hK K)
 refine wpM_nil ?_
 intro w5 e5 hF
 have ob : OwnBox w.heap.size w5 v17 (c.box ++ [b]):=hF 17
 obtain ⟨na,nc,en⟩:=ob.slice
 rw [show (c.box ++ [b]).length = c.box.length + 1 by simp] at en
 subst en
 have OC:=Lib.hid ob
 clear hF ob hcw c1
 replace B_b0:=zbx B_b0 e5
 replace B_b1:=zbx B_b1 e5
 replace B_b2:=zbx B_b2 e5
 replace OPa:=Lib.hid (owns_ext OPa.out e5)
 replace OB:=Lib.hid (OB.out.ext e5)
 replace OPg:=Lib.hid (owns_ext OPg.out e5)
 replace EW:=Lib.hid (EW.out.trans e5)
 clear e5
 refine stop_store ?_
 unfold Hid
 refine wpList_storeP rfl 32 (.tmp 18) (.tmp 17) rfl b2 4 rfl [.slice na (c.box.length + 1) nc] (rfl) B_b2 rfl (by kernel_rfl) rfl [.slice (some ⟨kg,0,none⟩) c.calls.length c.calls.length,I c.at_,.bool c.sent,I c.gen,.slice na (c.box.length + 1) nc,.slice (some ⟨gg,0,none⟩) c.got.length c.got.length] rfl (fun w5_ M5=>?_)
 replace OPa:=Lib.hid (OPa.out.kept M5.out.grown (.inr (own_ne OPa.out B_b2.out (by decide))))
 replace OB:=Lib.hid (OB.out.kept M5.out.grown B_b2.out (by decide) (by decide))
 replace OPg:=Lib.hid (OPg.out.kept M5.out.grown (.inr (own_ne OPg.out B_b2.out (by decide))))
 replace OC:=Lib.hid (OC.out.kept M5.out.grown B_b2.out (by decide) (by decide))
 replace B_b0:=zwl M5 B_b0 D_b0_b2
 replace B_b1:=zwl M5 B_b1 D_b1_b2
 replace B_b2:=zwb M5
 replace EW:=zwe M5 EW O_b2
 go_wp2_with ((with_reducible refine zst (L:=[44,41,31,51]) ?_ ?_); exact rfl)
 unfold Hid
 refine wpList_loadW rfl 51 (.tmp 5) rfl b2 rfl B_b2 Try.underlying51 (by kernel_rfl) (fun v19 H_v19=>?_)
 go_wp2_with ((with_reducible refine zst (L:=[44,41,31,51]) ?_ ?_); exact rfl)
 unfold Hid
 refine wpList_storeW rfl 51 (.tmp 4) (.tmp 19) rfl b1 rfl _ (zcv H_v19) B_b1 rfl (by kernel_rfl) rfl (fun w6_ M6=>?_)
 replace OPa:=Lib.hid (OPa.out.kept M6.out.grown (.inr (own_ne OPa.out B_b1.out (by decide))))
 replace OB:=Lib.hid (OB.out.kept M6.out.grown B_b1.out (by decide) (by decide))
 replace OPg:=Lib.hid (OPg.out.kept M6.out.grown (.inr (own_ne OPg.out B_b1.out (by decide))))
 replace OC:=Lib.hid (OC.out.kept M6.out.grown B_b1.out (by decide) (by decide))
 replace B_b0:=zwl M6 B_b0 D_b0_b1
 replace B_b1:=zwb M6
 replace B_b2:=zwg M6 B_b2 D_b1_b2
 replace EW:=zwe M6 EW O_b1
 go_wp2
 have z0:=run_box (P:=Try.prog) 51 B_b1.out Try.underlying51 (by kernel_rfl)
 refine bodyPost_ret (by simp [results,Try.results8,asAddr,z0,Act.put]; rfl) rfl ?_
 exact ⟨_,rfl,EW.out,agg_rd ((⟨OPa.out,OC.out,OPg.out⟩ : OwnCn _ _ _ _ _ { c with box:=c.box ++ [b] }).rd (Nat.le_refl _))⟩

theorem comeOk : ComeOk:=fun c calls box got bv b w A h1 h2 h3 h4 h5 h6=>ComeC_keeps c calls box got bv b w A h1 h2 h3 h4 h5 h6

end Go.Proofs.Ytdmipnnfoolelae

namespace Go.Proofs.Ytdmipnnfoolelae
open Go.RowKit Go.Mk

/-- append of something onto a slice that is full: in memory of its own. -/
theorem run_append_grow {P : Program} (w : World) (base : Nat) (t ty e : TypeId) (i : TypeInfo) (z : Value) (size bytes : Nat) (ht : P.underlying t = some (.slice e)) (hi : P.info? e = some i) (hz : i.zero = some z)
  (hsize : i.size = size) (hby : i.bytes = bytes) (hzs : z.cells.size = size) (hsz : 0 < size)
  (v : Value) (n : Nat) (xs : List Value) (hown : FullOf base e size n xs v w) (u : Value) (m : Nat) (news : List Value) (hu : Row w size u m news)
  (hbytes : (n + m) * bytes ≤ 140737488355328) (hpos : 0 < bytes) (hm0 : 0 < m) :
  ∃ v' w',(Builtin.append_ #[t,t] ty #[v,u]).run P w = .ok v' w' ∧ w'.ownsRow w.heap.size e size v' (n + m) (xs ++ news) ∧ Ext w w':=by
 obtain ⟨g,rfl,hown⟩:=hown
 have h63 : n + m ≤ maxLen:=by
  have : n + m ≤ (n + m) * bytes:=Nat.le_mul_of_pos_right _ hpos
  unfold maxLen
  omega
 obtain ⟨hl,ao,cap,rfl,hc,hm,h0,hcell⟩:=hu
 cases ao with
 | none=>have:=h0 rfl; omega
 | some ad =>
  obtain ⟨v',w',hrun,r1,r2⟩:=run_append_arg_grows (P:=P) w t ty e i z size bytes ht hi hz hsize hby hzs hsz ⟨g,0,none⟩ n n xs hown.1 (hown.cells (g:=g) rfl) ad m cap news hl (fun j u hj=>by
   obtain ⟨b,off,e',hc'⟩:=hcell j u hj
   simp only [Option.some.injEq] at e'
   subst e'
   rw [add_plain]; exact hc') (by omega) h63 hbytes
  exact ⟨v',w',hrun,r1,⟨r2.os,r2.tape,r2.output,r2.size,fun k hk=>r2.block k hk (by simp)⟩⟩
theorem wpList_append_grow {P : Program} {ops : Array Oper} {rest : List Oper} {o : Oper} {a : Act} {w : World} {Q : Exit → Act → World → Prop} (hgd : o.guard = none) (s x : Operand) (t : TypeId) (ho : o.op = .call { callee:=.builtin .append,args:=#[s,x],argTypes:=#[t,t] })
  (base : Nat) (e : TypeId) (i : TypeInfo) (z : Value) (size bytes : Nat) (ht : P.underlying t = some (.slice e)) (hi : P.info? e = some i) (hz : i.zero = some z)
  (hsize : i.size = size) (hby : i.bytes = bytes) (hzs : z.cells.size = size) (hsz : 0 < size)
  (v : Value) (n : Nat) (xs : List Value) (hs : a.eval s = v) (hown : FullOf base e size n xs v w) (u : Value) (hx : a.eval x = u) (m : Nat) (news : List Value) (hu : Row w size u m news)
  (hbytes : (n + m) * bytes ≤ 140737488355328) (hpos : 0 < bytes) (hm0 : 0 < m)
  (h : ∀ v' w',w'.ownsRow w.heap.size e size v' (n + m) (xs ++ news) → Ext w w' → wpList P ops Q rest (a.put o.dst v') w') : wpList P ops Q (o :: rest) a w:=by
 refine wpList_plain hgd fun K hK=>?_
 obtain ⟨v',w',hrun,h2,h3⟩:=run_append_grow (P:=P) w base t o.type e i z size bytes ht hi hz hsize hby hzs hsz v n xs hown u m news hu hbytes hpos hm0
 unfold Oper.wp
 simp [execOp,ho,resolve,invoke,builtin,hs,hx,hrun,Result.andThen]
 exact hK _ _ (h v' w' h2 h3)

/-- What a client is that takes the first of its box. -/
def hearC (cl : List Cl) (at_ : Int) (sent : Bool) (gen : Int) (b : List UInt8) (l : List (List UInt8)) (gl : List Rp) (me : Int) : Cn :=
 if (readAn b).2 = 0 ∧ (readAn b).1.client = me ∧ (readAn b).1.token = at_ ∧ sent = true then ⟨cl,at_ + 1,false,gen,l,gl ++ [(readAn b).1.reply]⟩ else ⟨cl,at_,sent,gen,l,gl⟩
theorem go_hear (cl : List Cl) (at_ : Int) (sent : Bool) (gen : Int) (b : List UInt8) (l : List (List UInt8)) (gl : List Rp) (me gen2 : Int) (up : Bool) : goCn ⟨cl,at_,sent,gen,b :: l,gl⟩ me gen2 up = (hearC cl at_ sent gen b l gl me,[],0):=by
 show (if (readAn b).2 = 0 ∧ (readAn b).1.client = me ∧ (readAn b).1.token = at_ ∧ sent = true then _ else _) = _
 unfold hearC
 split <;> rfl
/-- Why a client sends nothing. -/
def silentE (cl : List Cl) (at_ : Int) (sent : Bool) (gen gen2 : Int) (up : Bool) : Int:=if (cl.length : Int) ≤ at_ then 11 else if ¬ up then 10 else if sent ∧ gen = gen2 then 12 else 0

set_option maxRecDepth 100000 in
set_option maxHeartbeats 1000000 in
theorem silent_any (cl : List Cl) (ka : Option Addr) (kc : Nat) (at_ : Int) (sent : Bool) (gen gen2 : Int) (up : Bool) (box got : Value) (w : World) (h0 : 0 ≤ at_) :
  Calls Try.prog 23 #[.agg #[.slice ka cl.length kc,I at_,.bool sent,I gen,box,got],I gen2,.bool up] w fun e w'=>e = .returned (I (silentE cl at_ sent gen gen2 up)) ∧ Ext w w':=by
 have EW:=Lib.hid (Ext.refl w)
 have hX0 : silentE cl at_ sent gen gen2 up = if (cl.length : Int) ≤ at_ then 11 else if ¬ up then 10 else if sent ∧ gen = gen2 then 12 else 0:=rfl
 by_cases hat : (cl.length : Int) ≤ at_
 case pos =>
  rw [hX0,if_pos hat]
  clear hX0
  go_enter Try.func23,Try.ntmps23
  go_wp2_with ((with_reducible refine zst (L:=[44,41,31,51]) ?_ ?_); exact rfl)
  unfold Hid
  refine wpList_boxB rfl 51 (.tmp 0) rfl #[.slice ka cl.length kc,I at_,.bool sent,I gen,box,got] rfl (fun b0 w1_ M1=>?_)
  have B_b0:=zmb M1
  replace EW:=zet EW M1
  have c0:=cell_of (i:=0) B_b0.out rfl
  have c1:=cell_of (i:=1) B_b0.out rfl
  have c2:=cell_of (i:=2) B_b0.out rfl
  have c3:=cell_of (i:=3) B_b0.out rfl
  go_wp2
  go_ret
  exact ⟨rfl,EW.out⟩
 rw [hX0,if_neg hat]
 cases up
 case false =>
  rw [if_pos (by simp)]
  clear hX0
  go_enter Try.func23,Try.ntmps23
  go_wp2_with ((with_reducible refine zst (L:=[44,41,31,51]) ?_ ?_); exact rfl)
  unfold Hid
  refine wpList_boxB rfl 51 (.tmp 0) rfl #[.slice ka cl.length kc,I at_,.bool sent,I gen,box,got] rfl (fun b0 w1_ M1=>?_)
  have B_b0:=zmb M1
  replace EW:=zet EW M1
  have c0:=cell_of (i:=0) B_b0.out rfl
  have c1:=cell_of (i:=1) B_b0.out rfl
  have c2:=cell_of (i:=2) B_b0.out rfl
  have c3:=cell_of (i:=3) B_b0.out rfl
  go_wp2
  go_ret
  exact ⟨rfl,EW.out⟩
 rw [if_neg (by simp)]
 by_cases hsg : sent = true ∧ gen = gen2
 case pos =>
  rw [if_pos hsg]
  obtain ⟨rfl,rfl⟩:=hsg
  clear hX0
  go_enter Try.func23,Try.ntmps23
  go_wp2_with ((with_reducible refine zst (L:=[44,41,31,51]) ?_ ?_); exact rfl)
  unfold Hid
  refine wpList_boxB rfl 51 (.tmp 0) rfl #[.slice ka cl.length kc,I at_,.bool true,I gen,box,got] rfl (fun b0 w1_ M1=>?_)
  have B_b0:=zmb M1
  replace EW:=zet EW M1
  have c0:=cell_of (i:=0) B_b0.out rfl
  have c1:=cell_of (i:=1) B_b0.out rfl
  have c2:=cell_of (i:=2) B_b0.out rfl
  have c3:=cell_of (i:=3) B_b0.out rfl
  go_wp2
  go_ret
  exact ⟨rfl,EW.out⟩
 rw [if_neg hsg]
 clear hX0
 have hsel : (sent = false ∨ (sent = true ∧ (gen == gen2) = false)):=by
  cases sent
  ·exact .inl rfl
  ·exact .inr ⟨rfl,by simpa using hsg⟩
 clear hsg
 rcases hsel with rfl | ⟨rfl,hgn⟩
 ·go_enter Try.func23,Try.ntmps23
  go_wp2_with ((with_reducible refine zst (L:=[44,41,31,51]) ?_ ?_); exact rfl)
  unfold Hid
  refine wpList_boxB rfl 51 (.tmp 0) rfl #[.slice ka cl.length kc,I at_,.bool false,I gen,box,got] rfl (fun b0 w1_ M1=>?_)
  have B_b0:=zmb M1
  replace EW:=zet EW M1
  have c0:=cell_of (i:=0) B_b0.out rfl
  have c1:=cell_of (i:=1) B_b0.out rfl
  have c2:=cell_of (i:=2) B_b0.out rfl
  have c3:=cell_of (i:=3) B_b0.out rfl
  go_wp2
  go_ret
  exact ⟨rfl,EW.out⟩
 ·go_enter Try.func23,Try.ntmps23
  go_wp2_with ((with_reducible refine zst (L:=[44,41,31,51]) ?_ ?_); exact rfl)
  unfold Hid
  refine wpList_boxB rfl 51 (.tmp 0) rfl #[.slice ka cl.length kc,I at_,.bool true,I gen,box,got] rfl (fun b0 w1_ M1=>?_)
  have B_b0:=zmb M1
  replace EW:=zet EW M1
  have c0:=cell_of (i:=0) B_b0.out rfl
  have c1:=cell_of (i:=1) B_b0.out rfl
  have c2:=cell_of (i:=2) B_b0.out rfl
  have c3:=cell_of (i:=3) B_b0.out rfl
  go_wp2
  go_ret
  exact ⟨rfl,EW.out⟩

set_option maxRecDepth 100000 in
set_option maxHeartbeats 4000000 in
theorem hear_keeps (cl : List Cl) (at_ : Int) (sent : Bool) (gen : Int) (b : List UInt8) (l : List (List UInt8)) (gl : List Rp) (calls box : Value) (gg base : Nat) (me : Int) (w : World) (A : Nat → Prop)
  (hc : Rd A (fun w=>RowOf 4 elCl w calls cl) w) (hb : Rd A (fun w=>RowOf 1 elBs w box (b :: l)) w) (hg : Rd A (fun w=>RowOf 2 elRp w (.slice (some ⟨gg,0,none⟩) gl.length gl.length) gl) w) (ho : w.ownsRow base 39 2 (.slice (some ⟨gg,0,none⟩) gl.length gl.length) gl.length (cellsR gl)) (h0 : 0 ≤ at_) (h1 : at_ ≤ 1000000) (hgl : gl.length ≤ 1000) :
  Keeps Try.prog 22 #[.agg #[calls,I at_,.bool sent,I gen,box,.slice (some ⟨gg,0,none⟩) gl.length gl.length],I me] w A (fun r w'=>Agg elCn (hearC cl at_ sent gen b l gl me) r w'):=by
 unfold Keeps
 obtain ⟨ca,cc,rfl⟩:=rowOf_slice hc.out
 have EW:=Lib.hid (Ext.refl w)
 obtain ⟨B,hB⟩:=away A w.heap.size 2
 have HK:=Lib.hid hB
 clear hB
 have HC:=Lib.hid (hc.widen HK.out.1)
 have HG:=Lib.hid (hg.widen HK.out.1)
 have OPg:=Lib.hid ho
 obtain ⟨xb,xo,xc,bv,rfl,hx1,hx2,hf,hrest⟩:=box_first (hb.widen HK.out.1)
 have HF:=Lib.hid hf
 have HB:=Lib.hid hrest
 have HGL:=Lib.hid hgl
 unfold maxLen at hx2
 clear hc hb hg hf hrest hgl ho
 obtain ⟨⟨ac,at2,⟨re,rn⟩⟩,ae,hRA⟩ : ∃ x y,readAn b = (x,y):=⟨_,_,rfl⟩
 have HRA:=Lib.hid hRA
 have hX0 : hearC cl at_ sent gen b l gl me = if ae = 0 ∧ ac = me ∧ at2 = at_ ∧ sent = true then ⟨cl,at_ + 1,false,gen,l,gl ++ [⟨re,rn⟩]⟩ else ⟨cl,at_,sent,gen,l,gl⟩:=by
  unfold hearC
  rw [hRA]
 clear hRA
 by_cases a1 : ae = 0
 case neg =>
  rw [hX0,if_neg (fun h=>a1 h.1)]
  have hb_a1 : (ae == 0) = false:=by simpa using a1
  clear hX0
  go_enter Try.func22,Try.ntmps22
  go_wp2_with ((with_reducible refine zst (L:=[44,41,31,51]) ?_ ?_); exact rfl)
  unfold Hid
  refine wpList_boxB rfl 51 (.tmp 0) rfl #[.slice ca cl.length cc,I at_,.bool sent,I gen,.slice (some ⟨xb,xo,none⟩) (l.length + 1) xc,.slice (some ⟨gg,0,none⟩) gl.length gl.length] rfl (fun b0 w1_ M1=>?_)
  have B_b0:=zmb M1
  replace HC:=zme M1 HC
  replace HB:=zme M1 HB
  replace HG:=zme M1 HG
  replace HF:=zme M1 HF
  replace OPg:=Lib.hid (owns_ext OPg.out M1.out.ext)
  replace EW:=zet EW M1
  go_wp2_with ((with_reducible refine zst (L:=[44,41,31,51]) ?_ ?_); exact rfl)
  unfold Hid
  refine wpList_allocB rfl 51 #[.slice none 0 0,I 0,.bool false,I 0,.slice none 0 0,.slice none 0 0] (by kernel_rfl) (fun b1 w2_ M2=>?_)
  have D_b0_b1:=zld B_b0 M2
  replace B_b0:=zmo M2 B_b0
  have B_b1:=zmb M2
  replace HC:=zme M2 HC
  replace HB:=zme M2 HB
  replace HG:=zme M2 HG
  replace HF:=zme M2 HF
  replace OPg:=Lib.hid (owns_ext OPg.out M2.out.ext)
  replace EW:=zet EW M2
  have A_b0 : Hid (b0 = w.heap.size + 0):=by unfold Hid; have q0:=M1.out.at_; have r0:=M1.out.size; omega
  have N_b0:=znb HK A_b0 (by decide)
  have O_b0:=zob A_b0
  have A_b1 : Hid (b1 = w.heap.size + 1):=by unfold Hid; have q0:=M1.out.at_; have r0:=M1.out.size; have q1:=M2.out.at_; have r1:=M2.out.size; omega
  have N_b1:=znb HK A_b1 (by decide)
  have O_b1:=zob A_b1
  have c4:=cell_of (i:=4) B_b0.out rfl
  have cx:=HF.out.out.1
  go_wp2_with (first | ((with_reducible refine zst (L:=[44,41,31,51]) ?_ ?_); exact rfl) | ((with_reducible refine zsc ?_ ?_); exact rfl))
  unfold Hid
  clear c4 cx
  refine wpList_cut rfl l.length (fun na nc=>Rd B (fun w=>RowOf 1 elBs w (.slice na l.length nc) l) w2_) ?_ (fun na' nc' hn=>?_)
  ·by_cases hcap : xc = 1
   ·have hl0 : l = []:=List.eq_nil_of_length_eq_zero (by omega)
    refine ⟨some ⟨xb,xo,none⟩,0,by rw [hl0]; exact Rd.all fun w=>rowOf_empty w xb xo 0 (by decide),?_⟩
    rw [hl0]
    subst hcap
    go_simp
   ·exact ⟨some ⟨xb,xo + 1,none⟩,xc - 1,HB.out,by go_simp; intro h; omega⟩
  replace HB:=Lib.hid hn
  clear hn hx1 hx2
  go_wp2_with ((with_reducible refine zst (L:=[44,41,31,51]) ?_ ?_); exact rfl)
  unfold Hid
  refine wpList_storeP rfl 32 (.tmp 15) (.tmp 14) rfl b0 4 rfl [(.slice na' l.length nc')] (rfl) B_b0 rfl (by kernel_rfl) rfl [.slice ca cl.length cc,I at_,.bool sent,I gen,(.slice na' l.length nc'),.slice (some ⟨gg,0,none⟩) gl.length gl.length] rfl (fun w3_ M3=>?_)
  replace OPg:=Lib.hid (OPg.out.kept M3.out.grown (.inr (own_ne OPg.out B_b0.out (by decide))))
  replace B_b0:=zwb M3
  replace B_b1:=zwg M3 B_b1 D_b0_b1
  replace HC:=zwr M3 HC N_b0
  replace HB:=zwr M3 HB N_b0
  replace HG:=zwr M3 HG N_b0
  replace HF:=zwr M3 HF N_b0
  replace EW:=zwe M3 EW O_b0
  go_wp2_with fail
  have hl:=ReadAnswer_any bv b w3_ HF.out.out.2
  rw [HRA.out] at hl
  refine Calls.exts hl (fun wa ea=>?_)
  clear hl
  replace B_b0:=zbx B_b0 ea
  replace B_b1:=zbx B_b1 ea
  replace HC:=zrx HC ea
  replace HB:=zrx HB ea
  replace HG:=zrx HG ea
  replace HF:=zrx HF ea
  replace OPg:=Lib.hid (owns_ext OPg.out ea)
  replace EW:=Lib.hid (EW.out.trans ea)
  go_wp2_with ((with_reducible refine zst (L:=[44,41,31,51]) ?_ ?_); exact rfl)
  unfold Hid
  refine wpList_allocB rfl 60 #[I 0,I 0,I 0,I 0] (by kernel_rfl) (fun b2 w4_ M4=>?_)
  have D_b0_b2:=zld B_b0 M4
  have D_b1_b2:=zld B_b1 M4
  obtain ⟨B1,HB1⟩ : ∃ X : Nat → Prop,Hid (∀ k,X k ↔ (B k ∧ k ≠ b2)):=⟨_,fun _=>Iff.rfl⟩
  replace HC:=zmd HB1 M4 HC
  replace HB:=zmd HB1 M4 HB
  replace HG:=zmd HB1 M4 HG
  replace HF:=zmd HB1 M4 HF
  replace N_b0:=znw HB1 N_b0
  replace N_b1:=znw HB1 N_b1
  have N_b2 : Hid (¬ B1 b2):=fun h=>((HB1.out _).1 h).2 rfl
  have I_B1 : Hid (∀ k,B1 k → B k):=fun k h=>((HB1.out k).1 h).1
  have O_b2 : Hid (w.heap.size ≤ b2):=by unfold Hid; have q2:=M4.out.at_; have q3:=EW.out.size; omega
  replace B_b0:=zmo M4 B_b0
  replace B_b1:=zmo M4 B_b1
  have B_b2:=zmb M4
  replace HC:=zme M4 HC
  replace HB:=zme M4 HB
  replace HG:=zme M4 HG
  replace HF:=zme M4 HF
  replace OPg:=Lib.hid (owns_ext OPg.out M4.out.ext)
  replace EW:=zet EW M4
  go_wp2_with ((with_reducible refine zst (L:=[44,41,31,51]) ?_ ?_); exact rfl)
  unfold Hid
  refine wpList_storeW rfl 60 (.tmp 6) (.tmp 19) rfl b2 rfl [I ac,I at2,I re,I rn] (rfl) B_b2 rfl (by kernel_rfl) rfl (fun w5_ M5=>?_)
  replace OPg:=Lib.hid (OPg.out.kept M5.out.grown (.inr (own_ne OPg.out B_b2.out (by decide))))
  replace B_b0:=zwl M5 B_b0 D_b0_b2
  replace B_b1:=zwl M5 B_b1 D_b1_b2
  replace B_b2:=zwb M5
  replace HC:=zwr M5 HC N_b2
  replace HB:=zwr M5 HB N_b2
  replace HG:=zwr M5 HG N_b2
  replace HF:=zwr M5 HF N_b2
  replace EW:=zwe M5 EW O_b2
  have d0:=cell_of (i:=0) B_b2.out rfl
  have d1:=cell_of (i:=1) B_b2.out rfl
  have c1:=cell_of (i:=1) B_b0.out rfl
  have c2:=cell_of (i:=2) B_b0.out rfl
  go_wp2_with ((with_reducible refine zst (L:=[44,41,31,51]) ?_ ?_); exact rfl)
  unfold Hid
  clear d0 d1 c1 c2
  refine wpList_loadW rfl 51 (.tmp 2) rfl b0 rfl B_b0 Try.underlying51 (by kernel_rfl) (fun v41 H_v41=>?_)
  go_wp2_with ((with_reducible refine zst (L:=[44,41,31,51]) ?_ ?_); exact rfl)
  unfold Hid
  refine wpList_storeW rfl 51 (.tmp 4) (.tmp 41) rfl b1 rfl _ (zcv H_v41) B_b1 rfl (by kernel_rfl) rfl (fun w6_ M6=>?_)
  replace OPg:=Lib.hid (OPg.out.kept M6.out.grown (.inr (own_ne OPg.out B_b1.out (by decide))))
  replace B_b0:=zwl M6 B_b0 D_b0_b1
  replace B_b1:=zwb M6
  replace B_b2:=zwg M6 B_b2 D_b1_b2
  replace HC:=zwr M6 HC N_b1
  replace HB:=zwr M6 HB N_b1
  replace HG:=zwr M6 HG N_b1
  replace HF:=zwr M6 HF N_b1
  replace EW:=zwe M6 EW O_b1
  go_wp2
  have z0:=run_box (P:=Try.prog) 51 B_b1.out Try.underlying51 (by kernel_rfl)
  refine bodyPost_ret (by simp [results,Try.results22,asAddr,z0,Act.put]; rfl) rfl ?_
  exact ⟨_,rfl,EW.out,Rd.widen (A:=B1) (agg_rd (cn_rd (c:=⟨cl,at_,sent,gen,l,gl⟩) HC.out HB.out HG.out)) (fun k _ h=>HK.out.2.2.2 k (I_B1.out k h))⟩
 subst a1
 by_cases a2 : ac = me
 case neg =>
  rw [hX0,if_neg (fun h=>a2 h.2.1)]
  have hb_a2 : (ac == me) = false:=by simpa using a2
  clear hX0
  go_enter Try.func22,Try.ntmps22
  go_wp2_with ((with_reducible refine zst (L:=[44,41,31,51]) ?_ ?_); exact rfl)
  unfold Hid
  refine wpList_boxB rfl 51 (.tmp 0) rfl #[.slice ca cl.length cc,I at_,.bool sent,I gen,.slice (some ⟨xb,xo,none⟩) (l.length + 1) xc,.slice (some ⟨gg,0,none⟩) gl.length gl.length] rfl (fun b0 w1_ M1=>?_)
  have B_b0:=zmb M1
  replace HC:=zme M1 HC
  replace HB:=zme M1 HB
  replace HG:=zme M1 HG
  replace HF:=zme M1 HF
  replace OPg:=Lib.hid (owns_ext OPg.out M1.out.ext)
  replace EW:=zet EW M1
  go_wp2_with ((with_reducible refine zst (L:=[44,41,31,51]) ?_ ?_); exact rfl)
  unfold Hid
  refine wpList_allocB rfl 51 #[.slice none 0 0,I 0,.bool false,I 0,.slice none 0 0,.slice none 0 0] (by kernel_rfl) (fun b1 w2_ M2=>?_)
  have D_b0_b1:=zld B_b0 M2
  replace B_b0:=zmo M2 B_b0
  have B_b1:=zmb M2
  replace HC:=zme M2 HC
  replace HB:=zme M2 HB
  replace HG:=zme M2 HG
  replace HF:=zme M2 HF
  replace OPg:=Lib.hid (owns_ext OPg.out M2.out.ext)
  replace EW:=zet EW M2
  have A_b0 : Hid (b0 = w.heap.size + 0):=by unfold Hid; have q0:=M1.out.at_; have r0:=M1.out.size; omega
  have N_b0:=znb HK A_b0 (by decide)
  have O_b0:=zob A_b0
  have A_b1 : Hid (b1 = w.heap.size + 1):=by unfold Hid; have q0:=M1.out.at_; have r0:=M1.out.size; have q1:=M2.out.at_; have r1:=M2.out.size; omega
  have N_b1:=znb HK A_b1 (by decide)
  have O_b1:=zob A_b1
  have c4:=cell_of (i:=4) B_b0.out rfl
  have cx:=HF.out.out.1
  go_wp2_with (first | ((with_reducible refine zst (L:=[44,41,31,51]) ?_ ?_); exact rfl) | ((with_reducible refine zsc ?_ ?_); exact rfl))
  unfold Hid
  clear c4 cx
  refine wpList_cut rfl l.length (fun na nc=>Rd B (fun w=>RowOf 1 elBs w (.slice na l.length nc) l) w2_) ?_ (fun na' nc' hn=>?_)
  ·by_cases hcap : xc = 1
   ·have hl0 : l = []:=List.eq_nil_of_length_eq_zero (by omega)
    refine ⟨some ⟨xb,xo,none⟩,0,by rw [hl0]; exact Rd.all fun w=>rowOf_empty w xb xo 0 (by decide),?_⟩
    rw [hl0]
    subst hcap
    go_simp
   ·exact ⟨some ⟨xb,xo + 1,none⟩,xc - 1,HB.out,by go_simp; intro h; omega⟩
  replace HB:=Lib.hid hn
  clear hn hx1 hx2
  go_wp2_with ((with_reducible refine zst (L:=[44,41,31,51]) ?_ ?_); exact rfl)
  unfold Hid
  refine wpList_storeP rfl 32 (.tmp 15) (.tmp 14) rfl b0 4 rfl [(.slice na' l.length nc')] (rfl) B_b0 rfl (by kernel_rfl) rfl [.slice ca cl.length cc,I at_,.bool sent,I gen,(.slice na' l.length nc'),.slice (some ⟨gg,0,none⟩) gl.length gl.length] rfl (fun w3_ M3=>?_)
  replace OPg:=Lib.hid (OPg.out.kept M3.out.grown (.inr (own_ne OPg.out B_b0.out (by decide))))
  replace B_b0:=zwb M3
  replace B_b1:=zwg M3 B_b1 D_b0_b1
  replace HC:=zwr M3 HC N_b0
  replace HB:=zwr M3 HB N_b0
  replace HG:=zwr M3 HG N_b0
  replace HF:=zwr M3 HF N_b0
  replace EW:=zwe M3 EW O_b0
  go_wp2_with fail
  have hl:=ReadAnswer_any bv b w3_ HF.out.out.2
  rw [HRA.out] at hl
  refine Calls.exts hl (fun wa ea=>?_)
  clear hl
  replace B_b0:=zbx B_b0 ea
  replace B_b1:=zbx B_b1 ea
  replace HC:=zrx HC ea
  replace HB:=zrx HB ea
  replace HG:=zrx HG ea
  replace HF:=zrx HF ea
  replace OPg:=Lib.hid (owns_ext OPg.out ea)
  replace EW:=Lib.hid (EW.out.trans ea)
  go_wp2_with ((with_reducible refine zst (L:=[44,41,31,51]) ?_ ?_); exact rfl)
  unfold Hid
  refine wpList_allocB rfl 60 #[I 0,I 0,I 0,I 0] (by kernel_rfl) (fun b2 w4_ M4=>?_)
  have D_b0_b2:=zld B_b0 M4
  have D_b1_b2:=zld B_b1 M4
  obtain ⟨B1,HB1⟩ : ∃ X : Nat → Prop,Hid (∀ k,X k ↔ (B k ∧ k ≠ b2)):=⟨_,fun _=>Iff.rfl⟩
  replace HC:=zmd HB1 M4 HC
  replace HB:=zmd HB1 M4 HB
  replace HG:=zmd HB1 M4 HG
  replace HF:=zmd HB1 M4 HF
  replace N_b0:=znw HB1 N_b0
  replace N_b1:=znw HB1 N_b1
  have N_b2 : Hid (¬ B1 b2):=fun h=>((HB1.out _).1 h).2 rfl
  have I_B1 : Hid (∀ k,B1 k → B k):=fun k h=>((HB1.out k).1 h).1
  have O_b2 : Hid (w.heap.size ≤ b2):=by unfold Hid; have q2:=M4.out.at_; have q3:=EW.out.size; omega
  replace B_b0:=zmo M4 B_b0
  replace B_b1:=zmo M4 B_b1
  have B_b2:=zmb M4
  replace HC:=zme M4 HC
  replace HB:=zme M4 HB
  replace HG:=zme M4 HG
  replace HF:=zme M4 HF
  replace OPg:=Lib.hid (owns_ext OPg.out M4.out.ext)
  replace EW:=zet EW M4
  go_wp2_with ((with_reducible refine zst (L:=[44,41,31,51]) ?_ ?_); exact rfl)
  unfold Hid
  refine wpList_storeW rfl 60 (.tmp 6) (.tmp 19) rfl b2 rfl [I ac,I at2,I re,I rn] (rfl) B_b2 rfl (by kernel_rfl) rfl (fun w5_ M5=>?_)
  replace OPg:=Lib.hid (OPg.out.kept M5.out.grown (.inr (own_ne OPg.out B_b2.out (by decide))))
  replace B_b0:=zwl M5 B_b0 D_b0_b2
  replace B_b1:=zwl M5 B_b1 D_b1_b2
  replace B_b2:=zwb M5
  replace HC:=zwr M5 HC N_b2
  replace HB:=zwr M5 HB N_b2
  replace HG:=zwr M5 HG N_b2
  replace HF:=zwr M5 HF N_b2
  replace EW:=zwe M5 EW O_b2
  have d0:=cell_of (i:=0) B_b2.out rfl
  have d1:=cell_of (i:=1) B_b2.out rfl
  have c1:=cell_of (i:=1) B_b0.out rfl
  have c2:=cell_of (i:=2) B_b0.out rfl
  go_wp2_with ((with_reducible refine zst (L:=[44,41,31,51]) ?_ ?_); exact rfl)
  unfold Hid
  clear d0 d1 c1 c2
  refine wpList_loadW rfl 51 (.tmp 2) rfl b0 rfl B_b0 Try.underlying51 (by kernel_rfl) (fun v41 H_v41=>?_)
  go_wp2_with ((with_reducible refine zst (L:=[44,41,31,51]) ?_ ?_); exact rfl)
  unfold Hid
  refine wpList_storeW rfl 51 (.tmp 4) (.tmp 41) rfl b1 rfl _ (zcv H_v41) B_b1 rfl (by kernel_rfl) rfl (fun w6_ M6=>?_)
  replace OPg:=Lib.hid (OPg.out.kept M6.out.grown (.inr (own_ne OPg.out B_b1.out (by decide))))
  replace B_b0:=zwl M6 B_b0 D_b0_b1
  replace B_b1:=zwb M6
  replace B_b2:=zwg M6 B_b2 D_b1_b2
  replace HC:=zwr M6 HC N_b1
  replace HB:=zwr M6 HB N_b1
  replace HG:=zwr M6 HG N_b1
  replace HF:=zwr M6 HF N_b1
  replace EW:=zwe M6 EW O_b1
  go_wp2
  have z0:=run_box (P:=Try.prog) 51 B_b1.out Try.underlying51 (by kernel_rfl)
  refine bodyPost_ret (by simp [results,Try.results22,asAddr,z0,Act.put]; rfl) rfl ?_
  exact ⟨_,rfl,EW.out,Rd.widen (A:=B1) (agg_rd (cn_rd (c:=⟨cl,at_,sent,gen,l,gl⟩) HC.out HB.out HG.out)) (fun k _ h=>HK.out.2.2.2 k (I_B1.out k h))⟩
 subst a2
 by_cases a3 : at2 = at_
 case neg =>
  rw [hX0,if_neg (fun h=>a3 h.2.2.1)]
  have hb_a3 : (at2 == at_) = false:=by simpa using a3
  clear hX0
  go_enter Try.func22,Try.ntmps22
  go_wp2_with ((with_reducible refine zst (L:=[44,41,31,51]) ?_ ?_); exact rfl)
  unfold Hid
  refine wpList_boxB rfl 51 (.tmp 0) rfl #[.slice ca cl.length cc,I at_,.bool sent,I gen,.slice (some ⟨xb,xo,none⟩) (l.length + 1) xc,.slice (some ⟨gg,0,none⟩) gl.length gl.length] rfl (fun b0 w1_ M1=>?_)
  have B_b0:=zmb M1
  replace HC:=zme M1 HC
  replace HB:=zme M1 HB
  replace HG:=zme M1 HG
  replace HF:=zme M1 HF
  replace OPg:=Lib.hid (owns_ext OPg.out M1.out.ext)
  replace EW:=zet EW M1
  go_wp2_with ((with_reducible refine zst (L:=[44,41,31,51]) ?_ ?_); exact rfl)
  unfold Hid
  refine wpList_allocB rfl 51 #[.slice none 0 0,I 0,.bool false,I 0,.slice none 0 0,.slice none 0 0] (by kernel_rfl) (fun b1 w2_ M2=>?_)
  have D_b0_b1:=zld B_b0 M2
  replace B_b0:=zmo M2 B_b0
  have B_b1:=zmb M2
  replace HC:=zme M2 HC
  replace HB:=zme M2 HB
  replace HG:=zme M2 HG
  replace HF:=zme M2 HF
  replace OPg:=Lib.hid (owns_ext OPg.out M2.out.ext)
  replace EW:=zet EW M2
  have A_b0 : Hid (b0 = w.heap.size + 0):=by unfold Hid; have q0:=M1.out.at_; have r0:=M1.out.size; omega
  have N_b0:=znb HK A_b0 (by decide)
  have O_b0:=zob A_b0
  have A_b1 : Hid (b1 = w.heap.size + 1):=by unfold Hid; have q0:=M1.out.at_; have r0:=M1.out.size; have q1:=M2.out.at_; have r1:=M2.out.size; omega
  have N_b1:=znb HK A_b1 (by decide)
  have O_b1:=zob A_b1
  have c4:=cell_of (i:=4) B_b0.out rfl
  have cx:=HF.out.out.1
  go_wp2_with (first | ((with_reducible refine zst (L:=[44,41,31,51]) ?_ ?_); exact rfl) | ((with_reducible refine zsc ?_ ?_); exact rfl))
  unfold Hid
  clear c4 cx
  refine wpList_cut rfl l.length (fun na nc=>Rd B (fun w=>RowOf 1 elBs w (.slice na l.length nc) l) w2_) ?_ (fun na' nc' hn=>?_)
  ·by_cases hcap : xc = 1
   ·have hl0 : l = []:=List.eq_nil_of_length_eq_zero (by omega)
    refine ⟨some ⟨xb,xo,none⟩,0,by rw [hl0]; exact Rd.all fun w=>rowOf_empty w xb xo 0 (by decide),?_⟩
    rw [hl0]
    subst hcap
    go_simp
   ·exact ⟨some ⟨xb,xo + 1,none⟩,xc - 1,HB.out,by go_simp; intro h; omega⟩
  replace HB:=Lib.hid hn
  clear hn hx1 hx2
  go_wp2_with ((with_reducible refine zst (L:=[44,41,31,51]) ?_ ?_); exact rfl)
  unfold Hid
  refine wpList_storeP rfl 32 (.tmp 15) (.tmp 14) rfl b0 4 rfl [(.slice na' l.length nc')] (rfl) B_b0 rfl (by kernel_rfl) rfl [.slice ca cl.length cc,I at_,.bool sent,I gen,(.slice na' l.length nc'),.slice (some ⟨gg,0,none⟩) gl.length gl.length] rfl (fun w3_ M3=>?_)
  replace OPg:=Lib.hid (OPg.out.kept M3.out.grown (.inr (own_ne OPg.out B_b0.out (by decide))))
  replace B_b0:=zwb M3
  replace B_b1:=zwg M3 B_b1 D_b0_b1
  replace HC:=zwr M3 HC N_b0
  replace HB:=zwr M3 HB N_b0
  replace HG:=zwr M3 HG N_b0
  replace HF:=zwr M3 HF N_b0
  replace EW:=zwe M3 EW O_b0
  go_wp2_with fail
  have hl:=ReadAnswer_any bv b w3_ HF.out.out.2
  rw [HRA.out] at hl
  refine Calls.exts hl (fun wa ea=>?_)
  clear hl
  replace B_b0:=zbx B_b0 ea
  replace B_b1:=zbx B_b1 ea
  replace HC:=zrx HC ea
  replace HB:=zrx HB ea
  replace HG:=zrx HG ea
  replace HF:=zrx HF ea
  replace OPg:=Lib.hid (owns_ext OPg.out ea)
  replace EW:=Lib.hid (EW.out.trans ea)
  go_wp2_with ((with_reducible refine zst (L:=[44,41,31,51]) ?_ ?_); exact rfl)
  unfold Hid
  refine wpList_allocB rfl 60 #[I 0,I 0,I 0,I 0] (by kernel_rfl) (fun b2 w4_ M4=>?_)
  have D_b0_b2:=zld B_b0 M4
  have D_b1_b2:=zld B_b1 M4
  obtain ⟨B1,HB1⟩ : ∃ X : Nat → Prop,Hid (∀ k,X k ↔ (B k ∧ k ≠ b2)):=⟨_,fun _=>Iff.rfl⟩
  replace HC:=zmd HB1 M4 HC
  replace HB:=zmd HB1 M4 HB
  replace HG:=zmd HB1 M4 HG
  replace HF:=zmd HB1 M4 HF
  replace N_b0:=znw HB1 N_b0
  replace N_b1:=znw HB1 N_b1
  have N_b2 : Hid (¬ B1 b2):=fun h=>((HB1.out _).1 h).2 rfl
  have I_B1 : Hid (∀ k,B1 k → B k):=fun k h=>((HB1.out k).1 h).1
  have O_b2 : Hid (w.heap.size ≤ b2):=by unfold Hid; have q2:=M4.out.at_; have q3:=EW.out.size; omega
  replace B_b0:=zmo M4 B_b0
  replace B_b1:=zmo M4 B_b1
  have B_b2:=zmb M4
  replace HC:=zme M4 HC
  replace HB:=zme M4 HB
  replace HG:=zme M4 HG
  replace HF:=zme M4 HF
  replace OPg:=Lib.hid (owns_ext OPg.out M4.out.ext)
  replace EW:=zet EW M4
  go_wp2_with ((with_reducible refine zst (L:=[44,41,31,51]) ?_ ?_); exact rfl)
  unfold Hid
  refine wpList_storeW rfl 60 (.tmp 6) (.tmp 19) rfl b2 rfl [I ac,I at2,I re,I rn] (rfl) B_b2 rfl (by kernel_rfl) rfl (fun w5_ M5=>?_)
  replace OPg:=Lib.hid (OPg.out.kept M5.out.grown (.inr (own_ne OPg.out B_b2.out (by decide))))
  replace B_b0:=zwl M5 B_b0 D_b0_b2
  replace B_b1:=zwl M5 B_b1 D_b1_b2
  replace B_b2:=zwb M5
  replace HC:=zwr M5 HC N_b2
  replace HB:=zwr M5 HB N_b2
  replace HG:=zwr M5 HG N_b2
  replace HF:=zwr M5 HF N_b2
  replace EW:=zwe M5 EW O_b2
  have d0:=cell_of (i:=0) B_b2.out rfl
  have d1:=cell_of (i:=1) B_b2.out rfl
  have c1:=cell_of (i:=1) B_b0.out rfl
  have c2:=cell_of (i:=2) B_b0.out rfl
  go_wp2_with ((with_reducible refine zst (L:=[44,41,31,51]) ?_ ?_); exact rfl)
  unfold Hid
  clear d0 d1 c1 c2
  refine wpList_loadW rfl 51 (.tmp 2) rfl b0 rfl B_b0 Try.underlying51 (by kernel_rfl) (fun v41 H_v41=>?_)
  go_wp2_with ((with_reducible refine zst (L:=[44,41,31,51]) ?_ ?_); exact rfl)
  unfold Hid
  refine wpList_storeW rfl 51 (.tmp 4) (.tmp 41) rfl b1 rfl _ (zcv H_v41) B_b1 rfl (by kernel_rfl) rfl (fun w6_ M6=>?_)
  replace OPg:=Lib.hid (OPg.out.kept M6.out.grown (.inr (own_ne OPg.out B_b1.out (by decide))))
  replace B_b0:=zwl M6 B_b0 D_b0_b1
  replace B_b1:=zwb M6
  replace B_b2:=zwg M6 B_b2 D_b1_b2
  replace HC:=zwr M6 HC N_b1
  replace HB:=zwr M6 HB N_b1
  replace HG:=zwr M6 HG N_b1
  replace HF:=zwr M6 HF N_b1
  replace EW:=zwe M6 EW O_b1
  go_wp2
  have z0:=run_box (P:=Try.prog) 51 B_b1.out Try.underlying51 (by kernel_rfl)
  refine bodyPost_ret (by simp [results,Try.results22,asAddr,z0,Act.put]; rfl) rfl ?_
  exact ⟨_,rfl,EW.out,Rd.widen (A:=B1) (agg_rd (cn_rd (c:=⟨cl,at_,sent,gen,l,gl⟩) HC.out HB.out HG.out)) (fun k _ h=>HK.out.2.2.2 k (I_B1.out k h))⟩
 replace a3:=a3.symm
 subst a3
 cases sent
 case false =>
  rw [hX0,if_neg (fun h=>by cases h.2.2.2)]
  clear hX0
  go_enter Try.func22,Try.ntmps22
  go_wp2_with ((with_reducible refine zst (L:=[44,41,31,51]) ?_ ?_); exact rfl)
  unfold Hid
  refine wpList_boxB rfl 51 (.tmp 0) rfl #[.slice ca cl.length cc,I at_,.bool false,I gen,.slice (some ⟨xb,xo,none⟩) (l.length + 1) xc,.slice (some ⟨gg,0,none⟩) gl.length gl.length] rfl (fun b0 w1_ M1=>?_)
  have B_b0:=zmb M1
  replace HC:=zme M1 HC
  replace HB:=zme M1 HB
  replace HG:=zme M1 HG
  replace HF:=zme M1 HF
  replace OPg:=Lib.hid (owns_ext OPg.out M1.out.ext)
  replace EW:=zet EW M1
  go_wp2_with ((with_reducible refine zst (L:=[44,41,31,51]) ?_ ?_); exact rfl)
  unfold Hid
  refine wpList_allocB rfl 51 #[.slice none 0 0,I 0,.bool false,I 0,.slice none 0 0,.slice none 0 0] (by kernel_rfl) (fun b1 w2_ M2=>?_)
  have D_b0_b1:=zld B_b0 M2
  replace B_b0:=zmo M2 B_b0
  have B_b1:=zmb M2
  replace HC:=zme M2 HC
  replace HB:=zme M2 HB
  replace HG:=zme M2 HG
  replace HF:=zme M2 HF
  replace OPg:=Lib.hid (owns_ext OPg.out M2.out.ext)
  replace EW:=zet EW M2
  have A_b0 : Hid (b0 = w.heap.size + 0):=by unfold Hid; have q0:=M1.out.at_; have r0:=M1.out.size; omega
  have N_b0:=znb HK A_b0 (by decide)
  have O_b0:=zob A_b0
  have A_b1 : Hid (b1 = w.heap.size + 1):=by unfold Hid; have q0:=M1.out.at_; have r0:=M1.out.size; have q1:=M2.out.at_; have r1:=M2.out.size; omega
  have N_b1:=znb HK A_b1 (by decide)
  have O_b1:=zob A_b1
  have c4:=cell_of (i:=4) B_b0.out rfl
  have cx:=HF.out.out.1
  go_wp2_with (first | ((with_reducible refine zst (L:=[44,41,31,51]) ?_ ?_); exact rfl) | ((with_reducible refine zsc ?_ ?_); exact rfl))
  unfold Hid
  clear c4 cx
  refine wpList_cut rfl l.length (fun na nc=>Rd B (fun w=>RowOf 1 elBs w (.slice na l.length nc) l) w2_) ?_ (fun na' nc' hn=>?_)
  ·by_cases hcap : xc = 1
   ·have hl0 : l = []:=List.eq_nil_of_length_eq_zero (by omega)
    refine ⟨some ⟨xb,xo,none⟩,0,by rw [hl0]; exact Rd.all fun w=>rowOf_empty w xb xo 0 (by decide),?_⟩
    rw [hl0]
    subst hcap
    go_simp
   ·exact ⟨some ⟨xb,xo + 1,none⟩,xc - 1,HB.out,by go_simp; intro h; omega⟩
  replace HB:=Lib.hid hn
  clear hn hx1 hx2
  go_wp2_with ((with_reducible refine zst (L:=[44,41,31,51]) ?_ ?_); exact rfl)
  unfold Hid
  refine wpList_storeP rfl 32 (.tmp 15) (.tmp 14) rfl b0 4 rfl [(.slice na' l.length nc')] (rfl) B_b0 rfl (by kernel_rfl) rfl [.slice ca cl.length cc,I at_,.bool false,I gen,(.slice na' l.length nc'),.slice (some ⟨gg,0,none⟩) gl.length gl.length] rfl (fun w3_ M3=>?_)
  replace OPg:=Lib.hid (OPg.out.kept M3.out.grown (.inr (own_ne OPg.out B_b0.out (by decide))))
  replace B_b0:=zwb M3
  replace B_b1:=zwg M3 B_b1 D_b0_b1
  replace HC:=zwr M3 HC N_b0
  replace HB:=zwr M3 HB N_b0
  replace HG:=zwr M3 HG N_b0
  replace HF:=zwr M3 HF N_b0
  replace EW:=zwe M3 EW O_b0
  go_wp2_with fail
  have hl:=ReadAnswer_any bv b w3_ HF.out.out.2
  rw [HRA.out] at hl
  refine Calls.exts hl (fun wa ea=>?_)
  clear hl
  replace B_b0:=zbx B_b0 ea
  replace B_b1:=zbx B_b1 ea
  replace HC:=zrx HC ea
  replace HB:=zrx HB ea
  replace HG:=zrx HG ea
  replace HF:=zrx HF ea
  replace OPg:=Lib.hid (owns_ext OPg.out ea)
  replace EW:=Lib.hid (EW.out.trans ea)
  go_wp2_with ((with_reducible refine zst (L:=[44,41,31,51]) ?_ ?_); exact rfl)
  unfold Hid
  refine wpList_allocB rfl 60 #[I 0,I 0,I 0,I 0] (by kernel_rfl) (fun b2 w4_ M4=>?_)
  have D_b0_b2:=zld B_b0 M4
  have D_b1_b2:=zld B_b1 M4
  obtain ⟨B1,HB1⟩ : ∃ X : Nat → Prop,Hid (∀ k,X k ↔ (B k ∧ k ≠ b2)):=⟨_,fun _=>Iff.rfl⟩
  replace HC:=zmd HB1 M4 HC
  replace HB:=zmd HB1 M4 HB
  replace HG:=zmd HB1 M4 HG
  replace HF:=zmd HB1 M4 HF
  replace N_b0:=znw HB1 N_b0
  replace N_b1:=znw HB1 N_b1
  have N_b2 : Hid (¬ B1 b2):=fun h=>((HB1.out _).1 h).2 rfl
  have I_B1 : Hid (∀ k,B1 k → B k):=fun k h=>((HB1.out k).1 h).1
  have O_b2 : Hid (w.heap.size ≤ b2):=by unfold Hid; have q2:=M4.out.at_; have q3:=EW.out.size; omega
  replace B_b0:=zmo M4 B_b0
  replace B_b1:=zmo M4 B_b1
  have B_b2:=zmb M4
  replace HC:=zme M4 HC
  replace HB:=zme M4 HB
  replace HG:=zme M4 HG
  replace HF:=zme M4 HF
  replace OPg:=Lib.hid (owns_ext OPg.out M4.out.ext)
  replace EW:=zet EW M4
  go_wp2_with ((with_reducible refine zst (L:=[44,41,31,51]) ?_ ?_); exact rfl)
  unfold Hid
  refine wpList_storeW rfl 60 (.tmp 6) (.tmp 19) rfl b2 rfl [I ac,I at_,I re,I rn] (rfl) B_b2 rfl (by kernel_rfl) rfl (fun w5_ M5=>?_)
  replace OPg:=Lib.hid (OPg.out.kept M5.out.grown (.inr (own_ne OPg.out B_b2.out (by decide))))
  replace B_b0:=zwl M5 B_b0 D_b0_b2
  replace B_b1:=zwl M5 B_b1 D_b1_b2
  replace B_b2:=zwb M5
  replace HC:=zwr M5 HC N_b2
  replace HB:=zwr M5 HB N_b2
  replace HG:=zwr M5 HG N_b2
  replace HF:=zwr M5 HF N_b2
  replace EW:=zwe M5 EW O_b2
  have d0:=cell_of (i:=0) B_b2.out rfl
  have d1:=cell_of (i:=1) B_b2.out rfl
  have c1:=cell_of (i:=1) B_b0.out rfl
  have c2:=cell_of (i:=2) B_b0.out rfl
  go_wp2_with ((with_reducible refine zst (L:=[44,41,31,51]) ?_ ?_); exact rfl)
  unfold Hid
  clear d0 d1 c1 c2
  refine wpList_loadW rfl 51 (.tmp 2) rfl b0 rfl B_b0 Try.underlying51 (by kernel_rfl) (fun v41 H_v41=>?_)
  go_wp2_with ((with_reducible refine zst (L:=[44,41,31,51]) ?_ ?_); exact rfl)
  unfold Hid
  refine wpList_storeW rfl 51 (.tmp 4) (.tmp 41) rfl b1 rfl _ (zcv H_v41) B_b1 rfl (by kernel_rfl) rfl (fun w6_ M6=>?_)
  replace OPg:=Lib.hid (OPg.out.kept M6.out.grown (.inr (own_ne OPg.out B_b1.out (by decide))))
  replace B_b0:=zwl M6 B_b0 D_b0_b1
  replace B_b1:=zwb M6
  replace B_b2:=zwg M6 B_b2 D_b1_b2
  replace HC:=zwr M6 HC N_b1
  replace HB:=zwr M6 HB N_b1
  replace HG:=zwr M6 HG N_b1
  replace HF:=zwr M6 HF N_b1
  replace EW:=zwe M6 EW O_b1
  go_wp2
  have z0:=run_box (P:=Try.prog) 51 B_b1.out Try.underlying51 (by kernel_rfl)
  refine bodyPost_ret (by simp [results,Try.results22,asAddr,z0,Act.put]; rfl) rfl ?_
  exact ⟨_,rfl,EW.out,Rd.widen (A:=B1) (agg_rd (cn_rd (c:=⟨cl,at_,false,gen,l,gl⟩) HC.out HB.out HG.out)) (fun k _ h=>HK.out.2.2.2 k (I_B1.out k h))⟩
 rw [hX0,if_pos ⟨rfl,rfl,rfl,rfl⟩]
 clear hX0
 go_enter Try.func22,Try.ntmps22
 go_wp2_with ((with_reducible refine zst (L:=[44,41,31,51]) ?_ ?_); exact rfl)
 unfold Hid
 refine wpList_boxB rfl 51 (.tmp 0) rfl #[.slice ca cl.length cc,I at_,.bool true,I gen,.slice (some ⟨xb,xo,none⟩) (l.length + 1) xc,.slice (some ⟨gg,0,none⟩) gl.length gl.length] rfl (fun b0 w1_ M1=>?_)
 have B_b0:=zmb M1
 replace HC:=zme M1 HC
 replace HB:=zme M1 HB
 replace HG:=zme M1 HG
 replace HF:=zme M1 HF
 replace OPg:=Lib.hid (owns_ext OPg.out M1.out.ext)
 replace EW:=zet EW M1
 go_wp2_with ((with_reducible refine zst (L:=[44,41,31,51]) ?_ ?_); exact rfl)
 unfold Hid
 refine wpList_allocB rfl 51 #[.slice none 0 0,I 0,.bool false,I 0,.slice none 0 0,.slice none 0 0] (by kernel_rfl) (fun b1 w2_ M2=>?_)
 have D_b0_b1:=zld B_b0 M2
 replace B_b0:=zmo M2 B_b0
 have B_b1:=zmb M2
 replace HC:=zme M2 HC
 replace HB:=zme M2 HB
 replace HG:=zme M2 HG
 replace HF:=zme M2 HF
 replace OPg:=Lib.hid (owns_ext OPg.out M2.out.ext)
 replace EW:=zet EW M2
 have A_b0 : Hid (b0 = w.heap.size + 0):=by unfold Hid; have q0:=M1.out.at_; have r0:=M1.out.size; omega
 have N_b0:=znb HK A_b0 (by decide)
 have O_b0:=zob A_b0
 have A_b1 : Hid (b1 = w.heap.size + 1):=by unfold Hid; have q0:=M1.out.at_; have r0:=M1.out.size; have q1:=M2.out.at_; have r1:=M2.out.size; omega
 have N_b1:=znb HK A_b1 (by decide)
 have O_b1:=zob A_b1
 have c4:=cell_of (i:=4) B_b0.out rfl
 have cx:=HF.out.out.1
 go_wp2_with (first | ((with_reducible refine zst (L:=[44,41,31,51]) ?_ ?_); exact rfl) | ((with_reducible refine zsc ?_ ?_); exact rfl))
 unfold Hid
 clear c4 cx
 refine wpList_cut rfl l.length (fun na nc=>Rd B (fun w=>RowOf 1 elBs w (.slice na l.length nc) l) w2_) ?_ (fun na' nc' hn=>?_)
 ·by_cases hcap : xc = 1
  ·have hl0 : l = []:=List.eq_nil_of_length_eq_zero (by omega)
   refine ⟨some ⟨xb,xo,none⟩,0,by rw [hl0]; exact Rd.all fun w=>rowOf_empty w xb xo 0 (by decide),?_⟩
   rw [hl0]
   subst hcap
   go_simp
  ·exact ⟨some ⟨xb,xo + 1,none⟩,xc - 1,HB.out,by go_simp; intro h; omega⟩
 replace HB:=Lib.hid hn
 clear hn hx1 hx2
 go_wp2_with ((with_reducible refine zst (L:=[44,41,31,51]) ?_ ?_); exact rfl)
 unfold Hid
 refine wpList_storeP rfl 32 (.tmp 15) (.tmp 14) rfl b0 4 rfl [(.slice na' l.length nc')] (rfl) B_b0 rfl (by kernel_rfl) rfl [.slice ca cl.length cc,I at_,.bool true,I gen,(.slice na' l.length nc'),.slice (some ⟨gg,0,none⟩) gl.length gl.length] rfl (fun w3_ M3=>?_)
 replace OPg:=Lib.hid (OPg.out.kept M3.out.grown (.inr (own_ne OPg.out B_b0.out (by decide))))
 replace B_b0:=zwb M3
 replace B_b1:=zwg M3 B_b1 D_b0_b1
 replace HC:=zwr M3 HC N_b0
 replace HB:=zwr M3 HB N_b0
 replace HG:=zwr M3 HG N_b0
 replace HF:=zwr M3 HF N_b0
 replace EW:=zwe M3 EW O_b0
 go_wp2_with fail
 have hl:=ReadAnswer_any bv b w3_ HF.out.out.2
 rw [HRA.out] at hl
 refine Calls.exts hl (fun wa ea=>?_)
 clear hl
 replace B_b0:=zbx B_b0 ea
 replace B_b1:=zbx B_b1 ea
 replace HC:=zrx HC ea
 replace HB:=zrx HB ea
 replace HG:=zrx HG ea
 replace HF:=zrx HF ea
 replace OPg:=Lib.hid (owns_ext OPg.out ea)
 replace EW:=Lib.hid (EW.out.trans ea)
 go_wp2_with ((with_reducible refine zst (L:=[44,41,31,51]) ?_ ?_); exact rfl)
 unfold Hid
 refine wpList_allocB rfl 60 #[I 0,I 0,I 0,I 0] (by kernel_rfl) (fun b2 w4_ M4=>?_)
 have D_b0_b2:=zld B_b0 M4
 have D_b1_b2:=zld B_b1 M4
 obtain ⟨B1,HB1⟩ : ∃ X : Nat → Prop,Hid (∀ k,X k ↔ (B k ∧ k ≠ b2)):=⟨_,fun _=>Iff.rfl⟩
 replace HC:=zmd HB1 M4 HC
 replace HB:=zmd HB1 M4 HB
 replace HG:=zmd HB1 M4 HG
 replace HF:=zmd HB1 M4 HF
 replace N_b0:=znw HB1 N_b0
 replace N_b1:=znw HB1 N_b1
 have N_b2 : Hid (¬ B1 b2):=fun h=>((HB1.out _).1 h).2 rfl
 have I_B1 : Hid (∀ k,B1 k → B k):=fun k h=>((HB1.out k).1 h).1
 have O_b2 : Hid (w.heap.size ≤ b2):=by unfold Hid; have q2:=M4.out.at_; have q3:=EW.out.size; omega
 replace B_b0:=zmo M4 B_b0
 replace B_b1:=zmo M4 B_b1
 have B_b2:=zmb M4
 replace HC:=zme M4 HC
 replace HB:=zme M4 HB
 replace HG:=zme M4 HG
 replace HF:=zme M4 HF
 replace OPg:=Lib.hid (owns_ext OPg.out M4.out.ext)
 replace EW:=zet EW M4
 go_wp2_with ((with_reducible refine zst (L:=[44,41,31,51]) ?_ ?_); exact rfl)
 unfold Hid
 refine wpList_storeW rfl 60 (.tmp 6) (.tmp 19) rfl b2 rfl [I ac,I at_,I re,I rn] (rfl) B_b2 rfl (by kernel_rfl) rfl (fun w5_ M5=>?_)
 replace OPg:=Lib.hid (OPg.out.kept M5.out.grown (.inr (own_ne OPg.out B_b2.out (by decide))))
 replace B_b0:=zwl M5 B_b0 D_b0_b2
 replace B_b1:=zwl M5 B_b1 D_b1_b2
 replace B_b2:=zwb M5
 replace HC:=zwr M5 HC N_b2
 replace HB:=zwr M5 HB N_b2
 replace HG:=zwr M5 HG N_b2
 replace HF:=zwr M5 HF N_b2
 replace EW:=zwe M5 EW O_b2
 have d0:=cell_of (i:=0) B_b2.out rfl
 have d1:=cell_of (i:=1) B_b2.out rfl
 have c1:=cell_of (i:=1) B_b0.out rfl
 have c2:=cell_of (i:=2) B_b0.out rfl
 have x5:=cell_of (i:=5) B_b0.out rfl
 have y2:=cell_of (i:=2) B_b2.out rfl
 have y3:=cell_of (i:=3) B_b2.out rfl
 go_wp2_with ((with_reducible refine zst (L:=[44,41,31,51]) ?_ ?_); exact rfl)
 unfold Hid
 clear d0 d1 c1 c2 x5 y2 y3
 obtain ⟨i0,hi,hz0,hz1,hz2⟩:=info_parts Try.infoRp
 have HI:=Lib.hid hi
 clear hi
 refine wpList_litB rfl 39 1 #[I re,I rn] (by kernel_rfl) (fun b3 w6_ M6=>?_)
 have D_b0_b3:=zld B_b0 M6
 have D_b1_b3:=zld B_b1 M6
 have D_b2_b3:=zld B_b2 M6
 obtain ⟨B11,HB11⟩ : ∃ X : Nat → Prop,Hid (∀ k,X k ↔ (B1 k ∧ k ≠ b3)):=⟨_,fun _=>Iff.rfl⟩
 replace HC:=zmd HB11 M6 HC
 replace HB:=zmd HB11 M6 HB
 replace HG:=zmd HB11 M6 HG
 replace HF:=zmd HB11 M6 HF
 replace N_b0:=znw HB11 N_b0
 replace N_b1:=znw HB11 N_b1
 replace N_b2:=znw HB11 N_b2
 have N_b3 : Hid (¬ B11 b3):=fun h=>((HB11.out _).1 h).2 rfl
 have I_B11 : Hid (∀ k,B11 k → B1 k):=fun k h=>((HB11.out k).1 h).1
 have O_b3 : Hid (w.heap.size ≤ b3):=by unfold Hid; have q2:=M6.out.at_; have q3:=EW.out.size; omega
 replace B_b0:=zmo M6 B_b0
 replace B_b1:=zmo M6 B_b1
 replace B_b2:=zmo M6 B_b2
 have B_b3:=zmb M6
 replace HC:=zme M6 HC
 replace HB:=zme M6 HB
 replace HG:=zme M6 HG
 replace HF:=zme M6 HF
 replace OPg:=Lib.hid (owns_ext OPg.out M6.out.ext)
 replace EW:=zet EW M6
 go_wp2_with (first | (at_builtin; refine stop_at ?_) | ((with_reducible refine zst (L:=[44,41,31,51]) ?_ ?_); exact rfl))
 unfold Hid
 refine wpList_append_grow rfl (.tmp 43) (.tmp 46) 49 rfl base 39 i0 (.agg #[.int .i64 0,.int .i64 0]) 2 16 Try.underlying49 HI.out hz0 hz1 hz2 rfl (by decide) _ gl.length (cellsR gl) rfl ⟨gg,rfl,OPg.out⟩ (.slice (some ⟨b3,0,none⟩) 1 1) rfl 1 (cellsR [⟨re,rn⟩]) (Row.of_owns (own_made (base:=0) (size:=2) M6.out (Nat.zero_le _) rfl (by decide))) (by have:=HGL.out; omega) (by decide) (by decide) ?_
 intro v47 w9 ho9 e9
 have hro : Rd (fun k=>w6_.heap.size ≤ k) (fun w=>RowOf 2 elRp w v47 (gl ++ [⟨re,rn⟩])) w9:=rd_rps (by rw [cellsR_append]; exact ho9)
 obtain ⟨qa,qc,hqs⟩:=rowOf_slice hro.out
 rw [show (gl ++ [(⟨re,rn⟩ : Rp)]).length = gl.length + 1 by simp] at hqs
 subst hqs
 have hsz : w.heap.size + 2 ≤ w6_.heap.size:=by have q:=(Array.getElem?_eq_some_iff.1 B_b1.out).1; have q2:=A_b1.out; omega
 have hsz2 : b2 < w6_.heap.size:=(Array.getElem?_eq_some_iff.1 B_b2.out).1
 have hsz3 : b3 < w6_.heap.size:=(Array.getElem?_eq_some_iff.1 B_b3.out).1
 have HRO:=Lib.hid (hro.widen (B:=B11) (fun k _ h=>(HB11.out k).2 ⟨(HB1.out k).2 ⟨HK.out.2.1 k (by omega),by omega⟩,by omega⟩))
 clear hro ho9 hsz hsz2 hsz3
 replace B_b0:=zbx B_b0 e9
 replace B_b1:=zbx B_b1 e9
 replace B_b2:=zbx B_b2 e9
 replace B_b3:=zbx B_b3 e9
 replace HC:=zrx HC e9
 replace HB:=zrx HB e9
 replace HG:=zrx HG e9
 replace HF:=zrx HF e9
 replace OPg:=Lib.hid (owns_ext OPg.out e9)
 replace EW:=Lib.hid (EW.out.trans e9)
 clear e9
 go_wp2_with ((with_reducible refine zst (L:=[44,41,31,51]) ?_ ?_); exact rfl)
 unfold Hid
 refine wpList_storeP rfl 49 (.tmp 48) (.tmp 47) rfl b0 5 rfl [.slice qa (gl.length + 1) qc] (rfl) B_b0 rfl (by kernel_rfl) rfl [.slice ca cl.length cc,I at_,.bool true,I gen,(.slice na' l.length nc'),.slice qa (gl.length + 1) qc] rfl (fun w7_ M7=>?_)
 replace OPg:=Lib.hid (OPg.out.kept M7.out.grown (.inr (own_ne OPg.out B_b0.out (by decide))))
 replace B_b0:=zwb M7
 replace B_b1:=zwg M7 B_b1 D_b0_b1
 replace B_b2:=zwg M7 B_b2 D_b0_b2
 replace B_b3:=zwg M7 B_b3 D_b0_b3
 replace HC:=zwr M7 HC N_b0
 replace HB:=zwr M7 HB N_b0
 replace HG:=zwr M7 HG N_b0
 replace HF:=zwr M7 HF N_b0
 replace HRO:=zwr M7 HRO N_b0
 replace EW:=zwe M7 EW O_b0
 have c1:=cell_of (i:=1) B_b0.out rfl
 go_wp2_with ((with_reducible refine zst (L:=[44,41,31,51]) ?_ ?_); exact rfl)
 unfold Hid
 clear c1
 refine wpList_storeP rfl 3 (.tmp 52) (.tmp 51) rfl b0 1 rfl [I (at_ + 1)] (rfl) B_b0 rfl (by kernel_rfl) rfl [.slice ca cl.length cc,I (at_ + 1),.bool true,I gen,(.slice na' l.length nc'),.slice qa (gl.length + 1) qc] rfl (fun w8_ M8=>?_)
 replace OPg:=Lib.hid (OPg.out.kept M8.out.grown (.inr (own_ne OPg.out B_b0.out (by decide))))
 replace B_b0:=zwb M8
 replace B_b1:=zwg M8 B_b1 D_b0_b1
 replace B_b2:=zwg M8 B_b2 D_b0_b2
 replace B_b3:=zwg M8 B_b3 D_b0_b3
 replace HC:=zwr M8 HC N_b0
 replace HB:=zwr M8 HB N_b0
 replace HG:=zwr M8 HG N_b0
 replace HF:=zwr M8 HF N_b0
 replace HRO:=zwr M8 HRO N_b0
 replace EW:=zwe M8 EW O_b0
 go_wp2_with ((with_reducible refine zst (L:=[44,41,31,51]) ?_ ?_); exact rfl)
 unfold Hid
 refine wpList_storeP rfl 4 (.tmp 53) (.const (.bool false)) rfl b0 2 rfl [.bool false] (rfl) B_b0 rfl (by kernel_rfl) rfl [.slice ca cl.length cc,I (at_ + 1),.bool false,I gen,(.slice na' l.length nc'),.slice qa (gl.length + 1) qc] rfl (fun w9_ M9=>?_)
 replace OPg:=Lib.hid (OPg.out.kept M9.out.grown (.inr (own_ne OPg.out B_b0.out (by decide))))
 replace B_b0:=zwb M9
 replace B_b1:=zwg M9 B_b1 D_b0_b1
 replace B_b2:=zwg M9 B_b2 D_b0_b2
 replace B_b3:=zwg M9 B_b3 D_b0_b3
 replace HC:=zwr M9 HC N_b0
 replace HB:=zwr M9 HB N_b0
 replace HG:=zwr M9 HG N_b0
 replace HF:=zwr M9 HF N_b0
 replace HRO:=zwr M9 HRO N_b0
 replace EW:=zwe M9 EW O_b0
 go_wp2_with ((with_reducible refine zst (L:=[44,41,31,51]) ?_ ?_); exact rfl)
 unfold Hid
 refine wpList_loadW rfl 51 (.tmp 2) rfl b0 rfl B_b0 Try.underlying51 (by kernel_rfl) (fun v54 H_v54=>?_)
 go_wp2_with ((with_reducible refine zst (L:=[44,41,31,51]) ?_ ?_); exact rfl)
 unfold Hid
 refine wpList_storeW rfl 51 (.tmp 4) (.tmp 54) rfl b1 rfl _ (zcv H_v54) B_b1 rfl (by kernel_rfl) rfl (fun w10_ M10=>?_)
 replace OPg:=Lib.hid (OPg.out.kept M10.out.grown (.inr (own_ne OPg.out B_b1.out (by decide))))
 replace B_b0:=zwl M10 B_b0 D_b0_b1
 replace B_b1:=zwb M10
 replace B_b2:=zwg M10 B_b2 D_b1_b2
 replace B_b3:=zwg M10 B_b3 D_b1_b3
 replace HC:=zwr M10 HC N_b1
 replace HB:=zwr M10 HB N_b1
 replace HG:=zwr M10 HG N_b1
 replace HF:=zwr M10 HF N_b1
 replace HRO:=zwr M10 HRO N_b1
 replace EW:=zwe M10 EW O_b1
 go_wp2
 have z0:=run_box (P:=Try.prog) 51 B_b1.out Try.underlying51 (by kernel_rfl)
 refine bodyPost_ret (by simp [results,Try.results22,asAddr,z0,Act.put]; rfl) rfl ?_
 exact ⟨_,rfl,EW.out,Rd.widen (A:=B11) (agg_rd (cn_rd (c:=⟨cl,(at_ + 1),false,gen,l,(gl ++ [⟨re,rn⟩])⟩) HC.out HB.out HRO.out)) (fun k _ h=>HK.out.2.2.2 k (I_B1.out k (I_B11.out k h)))⟩

end Go.Proofs.Ytdmipnnfoolelae

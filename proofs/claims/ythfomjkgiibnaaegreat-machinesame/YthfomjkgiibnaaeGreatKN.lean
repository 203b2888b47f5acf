/- Texts of the proof, merged: V1. -/
import Derived.Test.YthfomjkgiibnaaeGreatKA
import Derived.Test.YthfomjkgiibnaaeGreatKM
import Derived.Test.YthfomjkgiibnaaeGreatKJ
set_option maxHeartbeats 1000000
set_option maxRecDepth 100000

namespace Go.Proofs.YthfomjkgiibnaaeGreat
open Go.RowKit Go.Mk

theorem zop {w : World} {v : Value} {l : List (List UInt8)} (h : zav 1 zbY w v l) : ∃ ao cap,v = .slice ao l.length cap /\ l.length <= cap /\ cap <= maxLen /\
  ∀ k x,l[k]? = some x -> ∃ b off bv,ao = some ⟨b,off,none⟩ /\ w.cell? ⟨b,off + k,none⟩ = some bv /\ zbd w bv x:=by
 obtain ⟨ao,cap,h1,h2,h3,-,h5⟩:=h.form (by decide)
 refine ⟨ao,cap,h1,h2,h3,fun k x hx=>?_⟩
 obtain ⟨b,off,c,e,-,⟨bv,rfl,hb⟩,hcell⟩:=h5 k x hx
 refine ⟨b,off,bv,e,?_,hb⟩
 have:=hcell 0 bv rfl
 rwa [Nat.mul_one,Nat.add_zero] at this

theorem ziK (v : Value) (xs : List UInt8) (w : World) (hv : zbd w v xs) (hr : xs.length <= 140737488355328) :
  za1 Tryz.prog 67 #[v] w fun r w'=>w'.ownsRow w.heap.size 5 1 r xs.length (xs.map U):=by
 unfold za1;obtain ⟨i0,hi,hz0,hz1,hz2⟩:=info_parts Tryz.infoByte;have hsz : (Tryz.prog.info? 5).map (·.size) = some 1:=by rw [hi]; simp [hz1]
 have hrow : Row w 1 v xs.length (xs.map U):=hv;clear hv;obtain ⟨hlen,ao,cap,rfl,h1,h2,h0,h3⟩:=hrow;unfold maxLen at h2;go_enter Tryz.func67,Tryz.ntmps67
 go_wp2_with (at_make; refine wpList_make_full _ rfl _ _ 78 rfl w.heap.size 5 i0 (.int .u8 0) 1 zu78 hi hz0 hz1 .i64 .i64 _ _ xs.length rfl rfl rfl rfl (by rw [hz2]; omega) (by unfold maxLen; omega) (Nat.le_refl _) ?_; intro w1 hown hgrow)
 have he1 : Ext w w1:=(Ext.refl w).grown hgrow (fun k hk=>by cases hk);obtain ⟨w2,hrun,hown2,hgrow2⟩:=zb4 (P:=Tryz.prog) w1 78 3 5 1 zu78 hsz w.heap.size w.heap.size xs.length _ (xs.map U) _ hown (Row.ext ⟨hlen,ao,cap,rfl,h1,h2,h0,h3⟩ he1) (zlQ xs);have he2 : Ext w w2:=he1.grown hgrow2 (fun k hk=>by cases hk; exact Nat.le_refl _);rw [hrun];clear hrun hown hgrow hgrow2 he1 h3;go_wp2
 go_ret
 exact ⟨_,rfl,he2,hown2⟩

theorem zlA (v : Value) (xs : List (Int × Int)) (w : World) (hv : zaz w v xs) (hr : xs.length * 16 <= 140737488355328) :
  za1 Tryz.prog 79 #[v] w fun r w'=>w'.ownsRow w.heap.size 91 2 r xs.length (zaF xs):=by
 unfold za1;obtain ⟨i0,hi,hz0,hz1,hz2⟩:=info_parts Tryz.infoWrite;have hsz : (Tryz.prog.info? 91).map (·.size) = some 2:=by rw [hi]; simp [hz1]
 have hrow : Row w 2 v xs.length (zaF xs):=hv;clear hv;obtain ⟨hlen,ao,cap,rfl,h1,h2,h0,h3⟩:=hrow;unfold maxLen at h2;go_enter Tryz.func79,Tryz.ntmps79
 go_wp2_with (at_make; refine wpList_make_full _ rfl _ _ 27 rfl w.heap.size 91 i0 (.agg #[.int .i64 0,.int .i64 0]) 2 zu27 hi hz0 hz1 .i64 .i64 _ _ xs.length rfl rfl rfl rfl (by rw [hz2]; omega) (by unfold maxLen; omega) (Nat.le_refl _) ?_; intro w1 hown hgrow)
 have he1 : Ext w w1:=(Ext.refl w).grown hgrow (fun k hk=>by cases hk);obtain ⟨w2,hrun,hown2,hgrow2⟩:=zb4 (P:=Tryz.prog) w1 27 3 91 2 zu27 hsz w.heap.size w.heap.size xs.length _ (zaF xs) _ hown (Row.ext ⟨hlen,ao,cap,rfl,h1,h2,h0,h3⟩ he1) (zbE xs);have he2 : Ext w w2:=he1.grown hgrow2 (fun k hk=>by cases hk; exact Nat.le_refl _);rw [hrun];clear hrun hown hgrow hgrow2 he1 h3;go_wp2
 go_ret
 exact ⟨_,rfl,he2,hown2⟩

def zc6 (base : Nat) (w : World) (u : Value) (bl : List (List UInt8)) : Prop:=∃ evs : List Value,w.ownsRow base 78 1 u bl.length evs /\ ∀ (i : Nat) (b : List UInt8),bl[i]? = some b -> ∃ ev,evs[i]? = some ev /\ w.ownsRow base 5 1 ev b.length (b.map U)

theorem ziJ (v : Value) (bl : List (List UInt8)) (w : World) (hv : zav 1 zbY w v bl) (h1 : bl.length * 24 <= 140737488355328) (h2 : ∀ b ∈ bl,b.length <= 140737488355328) :
  za1 Tryz.prog 40 #[v] w fun r w'=>zc6 w.heap.size w' r bl /\ ∃ g,r = .slice (some ⟨g,0,none⟩) bl.length bl.length:=by
 unfold za1;obtain ⟨i0,hi,hz0,hz1,hz2⟩:=info_parts Tryz.infoBs;obtain ⟨ao,cap,rfl,g1,g2,g3⟩:=zop hv;unfold maxLen at g2;have G3:=hd g3;have H2:=hd h2;clear hv g3 h2;go_enter Tryz.func40,Tryz.ntmps40
 go_wp2_with (at_make; refine wpList_make_full _ rfl _ _ 32 rfl w.heap.size 78 i0 (.slice none 0 0) 1 zu32 hi hz0 hz1 .i64 .i64 _ _ bl.length rfl rfl rfl rfl (by rw [hz2]; omega) (by unfold maxLen; omega) (Nat.le_refl _) ?_; intro w1 hown hgrow)
 have he1 : Ext w w1:=(Ext.refl w).grown hgrow (fun k hk=>by cases hk);clear hgrow hi hz0 hz1 hz2;generalize hg : w.heap.size = g at *;have HG:=hd hg;clear hg;have HO:=hd hown;clear hown;go_wp2_with fail
 go_loopw [11] (fun i wr=>∃ (k : Nat) (evs : List Value),k <= bl.length /\ i = I k /\ wr.ownsRow g 78 1 (.slice (some ⟨g,0,none⟩) bl.length bl.length) bl.length evs /\ (∀ (j : Nat) (b : List UInt8),j < k -> bl[j]? = some b -> ∃ ev,evs[j]? = some ev /\ wr.ownsRow g 5 1 ev b.length (b.map U)) /\ Ext w wr) (fun i _=>bl.length - (intOf i).toNat)
 case atStart=>exact ⟨0,_,Nat.zero_le _,rfl,HO.o,fun j b hj=>by omega,he1⟩
 case round =>
  obtain ⟨k,evs,hk,rfl,ho,hall,he⟩:=hrel;have HALL:=hd hall;clear hall he1 HO;by_cases hlt : k < bl.length
  ·obtain ⟨x,hx⟩ : ∃ x,bl[k]? = some x:=⟨bl[k],List.getElem?_eq_getElem hlt⟩;obtain ⟨xb,xo,bv,rfl,hcell,hby⟩:=G3.o k x hx;have hxl:=H2.o x (List.mem_of_getElem? hx);have HX:=hd hx;clear hx;replace hcell:=he.cell hcell;obtain ⟨ba,bc,rfl⟩:=zan hby;have HBY:=hd (hby.ext he);clear hby;go_wp2_with fail
   refine (ziK _ x wr HBY.o hxl).to fun r w2 e2 hr=>?_;obtain ⟨ra,rc,rfl⟩:=za8 hr;have hown2:=zam ho e2;have hle : evs.length = bl.length:=by have:=ho.1; simpa using this
   have c5 : w2.cell? ⟨g,k,none⟩ = some (evs[k]'(by omega)):=by
    have q:=(Row.of_owns hown2);obtain ⟨_,ao2,cap2,eq2,_,_,_,q5⟩:=q;obtain ⟨b3,o3,e3,q6⟩:=q5 k _ (List.getElem?_eq_getElem (by omega));simp only [Value.slice.injEq] at eq2;rw [<- eq2.1] at e3;simp only [Option.some.injEq,Addr.mk.injEq,and_true] at e3;obtain ⟨rfl,rfl⟩:=e3;simpa using q6
   have f5 : w2.frozen? ⟨g,k,none⟩ = false:=hown2.frozenAt _;have hr2:=hd (zbj hr (b2:=g) (by have:=he.size; have:=HG.o; omega));have he2:=he.trans e2;have E2:=hd e2;clear hcell ho e2 he hr;go_wp2
   go_roundw
   case rel =>
    have hst:=hown2.stored k (.slice ra x.length rc);refine ⟨k + 1,_,by omega,by go_num,hst.1,fun j b hj hb=>?_,he2.setCell (by rw [HG.o]; exact Nat.le_refl _) _⟩;by_cases hjk : j = k
    ·subst hjk;have hb2 : bl[j]? = some b:=hb;rw [HX.o] at hb2;cases hb2
     refine ⟨_,List.getElem?_set_self (by omega),?_⟩;exact hr2.o.kept hst.2 (zdP hr2.o hown2 (by decide))
    ·obtain ⟨ev,h3,h4⟩:=HALL.o j b (by omega) hb;refine ⟨ev,by rw [List.getElem?_set_ne (fun e=>hjk e.symm)]; exact h3,?_⟩;have h5:=zam h4 E2.o;exact h5.kept hst.2 (zdP h5 hown2 (by decide))
   case measure=>simp [intOf]; omega
  ·have hkl : k = bl.length:=by omega
   subst hkl;go_wp2
   go_ret
   exact ⟨_,rfl,he,⟨evs,by rw [HG.o]; exact ho,fun i b hb=>by rw [HG.o]; exact HALL.o i b (List.getElem?_eq_some_iff.1 hb).1 hb⟩,_,rfl⟩

theorem zcX {base e size n : Nat} {v : Value} {cs : List Value} {w : World} {B : Nat -> Prop} (h : w.ownsRow base e size v n cs) (hB : ∀ g,v.ownBlock = some g -> B g) : Rd B (fun w=>Row w size v n cs) w:=fun w2 h2=>by
 refine Row.heap (Row.of_owns h) (fun j u b off hj ⟨m,cap,e⟩=>?_)
 rcases h.2 with ⟨rfl,_⟩ | ⟨g,cap',cur,rfl,hb,hg,_⟩
 ·cases e
 ·simp at e
  obtain ⟨⟨rfl,_⟩,_⟩:=e
  exact h2 g (hB g rfl) (Array.getElem?_eq_some_iff.1 hg).1
theorem zc6.rd {base : Nat} {w : World} {u : Value} {bl : List (List UInt8)} {B : Nat -> Prop} (h : zc6 base w u bl) (hB : ∀ g,base <= g -> (∀ cs t,w.heap[g]? = some (.cells cs t (0,0)) -> t = 78 ∨ t = 5) -> B g) : Rd B (fun w=>zav 1 zbY w u bl) w:=by
 obtain ⟨evs,h1,h2⟩:=h
 have hl : evs.length = bl.length:=by have:=h1.1; simpa using this
 have hin : ∀ {e size n : Nat} {v : Value} {cs : List Value},w.ownsRow base e size v n cs -> (e = 78 ∨ e = 5) -> ∀ g,v.ownBlock = some g -> B g:=fun {e size n v cs} ho he g hg=>by
  refine hB g (ho.lt g hg).1 (fun cs' t' hc=>?_)
  by_cases hne : e = t'
  ·rw [<- hne]; exact he
  ·exact absurd hg (za6 ho hc hne)
 have r1:=zcX h1 (hin h1 (.inl rfl))
 have r2 : Rd B (fun w=>∀ (i : Nat) (b : List UInt8) (ev : Value),bl[i]? = some b -> evs[i]? = some ev -> zbd w ev b) w:=fun w2 hk i b ev hb hev=>by
  obtain ⟨ev',h3,h4⟩:=h2 i b hb
  rw [hev] at h3
  cases h3
  exact zcX h4 (hin h4 (.inr rfl)) w2 hk
 refine (r1.and r2).imp fun w' hw=>⟨evs.map (fun e=>[e]),⟨by simp [hl],fun i c x hc hx=>?_⟩,?_⟩
 ·rw [List.getElem?_map] at hc
  cases he : evs[i]? with
  | none=>rw [he] at hc; cases hc
  | some ev =>
   rw [he] at hc
   simp at hc
   subst hc
   exact ⟨rfl,ev,rfl,hw.2 i x ev hx he⟩
 ·have hf : ∀ l : List Value,(l.map fun e=>[e]).flatten = l:=fun l=>by
   induction l with
   | nil=>rfl
   | cons a l ih=>rw [List.map_cons,List.flatten_cons,ih]; rfl
  rw [hf]
  exact hw.1
theorem zc6.ext {base : Nat} {w w' : World} {u : Value} {bl : List (List UInt8)} (h : zc6 base w u bl) (he : Ext w w') : zc6 base w' u bl:=by
 obtain ⟨evs,h1,h2⟩:=h
 refine ⟨evs,zam h1 he,fun i b hb=>?_⟩
 obtain ⟨ev,h3,h4⟩:=h2 i b hb
 exact ⟨ev,h3,zam h4 he⟩
theorem zc6.low {base b2 : Nat} {w : World} {u : Value} {bl : List (List UInt8)} (h : zc6 base w u bl) (hle : b2 <= base) : zc6 b2 w u bl:=by
 obtain ⟨evs,h1,h2⟩:=h
 refine ⟨evs,zbj h1 hle,fun i b hb=>?_⟩
 obtain ⟨ev,h3,h4⟩:=h2 i b hb
 exact ⟨ev,h3,zbj h4 hle⟩
theorem zc6.kept {base : Nat} {w w' : World} {u : Value} {bl : List (List UInt8)} (h : zc6 base w u bl) {b : Nat} (hg : w.grownBy w' (some b)) {cs : Array Value} {t : TypeId} (hb : w.heap[b]? = some (.cells cs t (0,0))) (hne : (78 : Nat) ≠ t) (hne2 : (5 : Nat) ≠ t) : zc6 base w' u bl:=by
 obtain ⟨evs,h1,h2⟩:=h
 refine ⟨evs,h1.kept hg (.inr (za6 h1 hb hne)),fun i b hb'=>?_⟩
 obtain ⟨ev,h3,h4⟩:=h2 i b hb'
 exact ⟨ev,h3,h4.kept hg (.inr (za6 h4 hb hne2))⟩

end Go.Proofs.YthfomjkgiibnaaeGreat

/- Texts of the proof, merged: W3 W4 S7. -/
import Derived.Test.YtikbhmnjlmbeeaeGreatKSA
import Derived.Test.YtikbhmnjlmbeeaeGreatKSN
import Derived.BigRegion
import Derived.Test.YtikbhmnjlmbeeaeGreatKSJ
import Derived.Test.YtikbhmnjlmbeeaeGreatKSF
set_option maxHeartbeats 1000000
set_option maxRecDepth 100000

namespace Go.Proofs.YtikbhmnjlmbeeaeGreat
open Go.RowKit Go.Mk

theorem zk3 (v : Value) (us : List (Int × Int)) (n base : Nat) (w : World) (ho : w.ownsRow base 91 2 v n (zaE us)) (hr : us.length * 16 <= 140737488355328) :
  Calls Tryz.prog 112 #[v] w fun e w'=>e = .returned (.tuple #[]) /\ w'.ownsRow base 91 2 v n (zaE us.reverse) /\ w.grownBy w' v.ownBlock:=by
 have hn : us.length = n:=by have:=ho.1; rw [zcl] at this; omega
 rcases ho.2 with ⟨rfl,hz⟩ | ⟨g,cap,cur,rfl,hb,hg,hnc,hcm,_⟩
 ·have : us = []:=List.eq_nil_of_length_eq_zero (by omega);subst this;go_enter Tryz.func112,Tryz.ntmps112
  go_wp2
  refine wp_loop_rounds 1 ?_;rw [rounds_succ];go_wp2
  go_end0
  exact ⟨rfl,ho,World.grownBy.refl _ _⟩
 ·clear hg;unfold maxLen at hcm;go_enter Tryz.func112,Tryz.ntmps112
  go_wp2
  go_loopw [2,3] (fun i j wr=>∃ k : Nat,2 * k <= n /\ i = I k /\ j = I ((n : Int) - 1 - k) /\ wr.ownsRow base 91 2 (.slice (some ⟨g,0,none⟩) n cap) n (zaE (rv us k)) /\ w.grownBy wr (some g)) (fun i _ _=>n - (intOf i).toNat)
  case atStart=>exact ⟨0,by omega,rfl,by simp,by rw [zpv]; exact ho,World.grownBy.refl _ _⟩
  case round =>
   obtain ⟨k,hk,rfl,rfl,hown,hgr⟩:=hrel;by_cases hlt : 2 * k + 1 < n
   ·have hlen:=zhB us k;obtain ⟨r1,r2⟩:=zql us k (by omega);obtain ⟨c1,c2⟩:=ze6 (rv us k) k (by omega);obtain ⟨c3,c4⟩:=ze6 (rv us k) (us.length - 1 - k) (by omega);rw [r1] at c1 c2;rw [r2] at c3 c4;rw [<- hown.cellAt _ (by omega)] at c1 c2 c3 c4;have HS : Hid (rv us (k + 1) = ((rv us k).set k (us.getD (us.length - 1 - k) (0,0))).set (us.length - 1 - k) (us.getD k (0,0))):=zpt us k (by omega);generalize us.getD k (0,0) = p at *;generalize us.getD (us.length - 1 - k) (0,0) = q at *;obtain ⟨p1,p2⟩:=p;obtain ⟨q1,q2⟩:=q;simp only [] at c1 c2 c3 c4;have hj : us.length - 1 - k = n - 1 - k:=by rw [hn]
    rw [hj] at c3 c4 HS;generalize hJ : n - 1 - k = J at *;have hJ' : (n : Int) - 1 - k = (J : Int):=by omega
    rw [hJ'];go_wp2_with fail
    have f1 : wr.frozen? ⟨g,k * 2,none⟩ = false:=hown.frozenAt _;have f2 : wr.frozen? ⟨g,k * 2 + 1,none⟩ = false:=hown.frozenAt _;have f3 : wr.frozen? ⟨g,J * 2,none⟩ = false:=hown.frozenAt _;have f4 : wr.frozen? ⟨g,J * 2 + 1,none⟩ = false:=hown.frozenAt _;have hJn : J < n:=by omega
    have hkn : k < n:=by omega
    have hkJ : k < J:=by omega
    go_region
    have s1:=hown.stored (k * 2) (I q1);have s2:=s1.1.stored (k * 2 + 1) (I q2);have s3:=s2.1.stored (J * 2) (I p1);have s4:=s3.1.stored (J * 2 + 1) (I p2);have hgr' : w.grownBy _ (some g):=za6 (za6 (za6 (za6 hgr s1.2) s2.2) s3.2) s4.2;have hown':=s4.1;clear s1 s2 s3 s4 c1 c2 c3 c4 f1 f2 f3 f4;go_wp2
    go_roundw
    case rel =>
     refine ⟨k + 1,by omega,by go_num,by go_num,?_,ziB hgr'⟩;rw [HS.o,zfB,zfB];exact hown'
    case measure=>simp [intOf]; omega
   ·go_wp2
    go_end0
    rw [zpS us k (by omega)] at hown;exact ⟨rfl,hown,hgr⟩

theorem zoF (v u : Value) (xs : List Int) (l : List (Int × Int)) (w : World) (hv : zbN w v xs) (hu : zay w u l) (hr : xs.length * 8 <= 140737488355328) (hr2 : l.length * 16 <= 140737488355328) :
  za2 Tryz.prog 99 #[v,u] w fun r w'=>∃ n,w'.ownsRow w.heap.size 91 2 r n (zaE (zbP xs l)):=by
 unfold za2;obtain ⟨i0,hi,hz0,hz1,hz2⟩:=info_parts Tryz.infoWrite;obtain ⟨ao,cap,rfl,h1,h2,h3⟩:=hu.form;unfold maxLen at h2;go_enter Tryz.func99,Tryz.ntmps99
 go_wp2_with fail
 refine (zmL v xs _ hv hr).mono ?_;rintro e w1 ⟨rfl,hown,he⟩
 generalize hg : w.heap.size = g at hown ⊢;have HG : Hid (w.heap.size = g):=hg;clear hg;have hsz1 : g + 1 <= w1.heap.size:=(hown.lt g rfl).2;go_wp2_with fail
 go_loopw [6,13] (fun o i wr=>∃ k : Nat,k <= l.length /\ i = I k /\ wr.ownsRow g 3 1 (.slice (some ⟨g,0,none⟩) xs.length xs.length) xs.length ((zaH xs (l.take k)).map I) /\
   wr.ownsRow (g + 1) 91 2 o (zbP xs (l.take k)).reverse.length (zaE (zbP xs (l.take k)).reverse) /\ g + 1 <= wr.heap.size /\ Ext w wr) (fun _ i _=>l.length - (intOf i).toNat)
 case atStart=>exact ⟨0,by omega,rfl,hown,World.ownsRow_nil _ _ _ _,hsz1,he⟩
 case round =>
  obtain ⟨k,hk,rfl,hown',hout,hsz,he'⟩:=hrel;clear hown he;have hul : (zbP xs (l.take k)).reverse.length <= k:=by have:=zfZ xs (l.take k); simp at this ⊢; omega
  have h6:=hout.lt;by_cases hlt : k < l.length
  ·obtain ⟨b,off,rfl,hc1,hc2⟩:=h3 k hlt;clear h3;have hd1:=he'.cell hc1;have hd2:=he'.cell hc2;clear hc1 hc2;generalize hp : l.getD k (0,0) = p at hd1 hd2;have HP : Hid (l[k]? = some p):=by unfold Hid; rw [<- hp]; simp [hlt]
   clear hp;obtain ⟨at_,n⟩:=p;simp only [] at hd1 hd2;have hyl : (zaH xs (l.take k)).length = xs.length:=zbU _ _;have HN : Hid (zaH xs (l.take (k + 1)) = zde (zaH xs (l.take k)) (at_,n)):=by unfold Hid; rw [List.take_add_one,HP.o]; exact zge _ _ _
   have HU : Hid ((zbP xs (l.take (k + 1))).reverse = (zbP xs (l.take k)).reverse ++ (if 0 <= at_ /\ at_ < (xs.length : Int) then [(at_,(zaH xs (l.take k)).getD at_.toNat 0)] else [])):=by
    unfold Hid;rw [List.take_add_one,HP.o];show (zbP xs (l.take k ++ [(at_,n)])).reverse = _
    rw [zkJ,List.reverse_append];split <;> simp
   generalize zaH xs (l.take k) = ys at hown' HN HU hyl;generalize (zbP xs (l.take k)).reverse = us at hout HU hul;have HYL : Hid (ys.length = xs.length):=hyl;clear hyl;have hown2:=fun o=>hown'.alloc o;have fz : ∀ o,(wr.alloc o).frozen? ⟨g,at_.toNat,none⟩ = false:=fun o=>(hown2 o).frozenAt _;by_cases hin : 0 <= at_ /\ at_ < (xs.length : Int)
   ·obtain ⟨i1,i2⟩:=hin
    have hc : ∀ o,(wr.alloc o).cell? ⟨g,at_.toNat,none⟩ = some (I (ys.getD at_.toNat 0)):=fun o=>by
     rw [(hown2 o).cellAt _ (by omega)];have : at_.toNat < ys.length:=by rw [HYL.o]; omega
     simp [this]
    have i3 : at_ < (ys.length : Int):=by rw [HYL.o]; exact i2
    go_wp2_with (go_at_call 111; refine Calls.same (zh6 _ ys at_ _ (zdh (hown2 _))) ?_)
    have hout2:=hout.alloc (Obj.cells #[Value.int IntKind.i64 at_,Value.int IntKind.i64 n] 91);have hown3:=hown2 (Obj.cells #[Value.int IntKind.i64 at_,Value.int IntKind.i64 n] 91);have he3:=he'.alloc (Obj.cells #[Value.int IntKind.i64 at_,Value.int IntKind.i64 n] 91);have hsz3 : g + 1 <= (wr.alloc (Obj.cells #[Value.int IntKind.i64 at_,Value.int IntKind.i64 n] 91)).heap.size:=by simp; omega
    have e1 : (wr.alloc (Obj.cells #[Value.int IntKind.i64 at_,Value.int IntKind.i64 n] 91)).cell? ⟨wr.heap.size,0,none⟩ = some (I at_):=by simp
    have e1' : (wr.alloc (Obj.cells #[Value.int IntKind.i64 at_,Value.int IntKind.i64 n] 91)).cell? ⟨wr.heap.size,1,none⟩ = some (I n):=by simp
    have e2:=hc (Obj.cells #[Value.int IntKind.i64 at_,Value.int IntKind.i64 n] 91);have hwr : wr.heap.size < (wr.alloc (Obj.cells #[Value.int IntKind.i64 at_,Value.int IntKind.i64 n] 91)).heap.size:=by simp
    generalize wr.alloc (Obj.cells #[Value.int IntKind.i64 at_,Value.int IntKind.i64 n] 91) = W at *;clear hd1 hd2 hown2 fz hc hown' hout hsz he';generalize hY : ys.getD at_.toNat 0 = y at *;refine zap 10 [none,none,none,none,none,none,none,none,none,some (.inr fun v w=>zay w v [(at_,y)])] (by kernel_rfl) (by kernel_rfl) ?_ ?_
    ·exact ⟨trivial,trivial,trivial,trivial,trivial,trivial,trivial,trivial,trivial,zez _,trivial⟩
    iterate 2 (refine zau (fun K hK=>?_); go_simp; refine hK _ ?_; clear hK K)
    refine zaF (I at_) rfl (fun w' hw'=>by have:=hw'.cell e1; go_simp) ?_;iterate 2 (refine zau (fun K hK=>?_); go_simp; refine hK _ ?_; clear hK K)
    refine zaF (I at_) rfl (fun w' hw'=>by have:=hw'.cell e1; go_simp) ?_;(refine zau (fun K hK=>?_); go_simp; refine hK _ ?_; clear hK K)
    refine zaF (I y) rfl (fun w' hw'=>by have:=hw'.cell e2; go_simp) ?_;(refine zau (fun K hK=>?_); go_simp; refine hK _ ?_; clear hK K)
    refine za8 _ rfl (fun w' hw' _=>?_) (fun v30=>?_)
    ·unfold zaT;go_simp
     exact ⟨(Ext.refl _).alloc _,zcE _ _ _ 1 rfl rfl (by decide)⟩
    refine za4 ?_;intro w2 he2 hF;have h30 : zay w2 v30 [(at_,y)]:=hF 30;clear hF;have e3:=he2.cell e1;have e3':=he2.cell e1';refine zaz _ rfl (.tmp 21) (.tmp 30) 27 rfl (g + 1) 91 i0 _ 2 16 zu27 hi hz0 hz1 hz2 rfl (by decide) u6 us.length (zaE us) rfl ?_ v30 rfl 1 _ h30 (zbB _) (by omega) (by decide) ?_ ?_
    ·exact zal hout2 he2
    ·exact Nat.le_trans hsz3 he2.size
    intro o' w3 ho hg3;have hneg : u6.ownBlock ≠ some g:=fun e=>by have:=(h6 g e).1; omega
    have hnep : u6.ownBlock ≠ some wr.heap.size:=fun e=>by have:=(h6 _ e).2; omega
    have e4:=zg0 hg3 e3 hnep;have e4':=zg0 hg3 e3' hnep;have hown4:=(zal hown3 he2).kept hg3 (.inr (fun e=>hneg e.symm));have he4 : Ext w w3:=(he3.trans he2).grown hg3 (fun k hk=>by have:=(h6 k hk).1; have:=HG.o; omega);have hsz4 : g + 1 <= w3.heap.size:=Nat.le_trans hsz3 (Nat.le_trans he2.size hg3.size);have e5 : w3.cell? ⟨g,at_.toNat,none⟩ = some (I y):=zg0 hg3 (he2.cell e2) hneg;have f5 : w3.frozen? ⟨g,at_.toNat,none⟩ = false:=hown4.frozenAt _;clear e1 e1' e2 e3 e3' hown3 hout2 he3 hsz3 hg3 he2 h30 hwr;go_wp2
    go_roundw
    case rel =>
     have hst:=hown4.stored at_.toNat (I n);have ho2:=ho.kept hst.2 (.inr (fun e=>by have:=(ho.lt g e).1; omega));refine ⟨k + 1,by omega,by go_num,?_,?_,by simpa using hsz4,he4.setCell (by rw [HG.o]; exact Nat.le_refl _) _⟩
     ·rw [HN.o];unfold zde;rw [if_pos ⟨i1,i3⟩,List.map_set];exact hst.1
     ·rw [HU.o,if_pos ⟨i1,i2⟩,zbo,List.length_append];exact ho2
    case measure=>simp [intOf]; omega
   ·have hdc : decide (0 <= at_ /\ at_ < (ys.length : Int)) = false:=by rw [HYL.o]; simp; omega
    go_wp2_with (go_at_call 111; refine Calls.same (zh6 _ ys at_ _ (zdh (hown2 _))) ?_)
    go_roundw
    case rel =>
     refine ⟨k + 1,by omega,by go_num,?_,?_,by simp; omega,he'.alloc _⟩
     ·rw [HN.o];unfold zde;rw [if_neg (by rw [HYL.o]; exact hin)];exact hown2 _
     ·rw [HU.o,if_neg hin,List.append_nil];exact hout.alloc _
    case measure=>simp [intOf]; omega
  ·rw [List.take_of_length_le (by omega)] at hout;clear hown' h3;go_wp2_with fail
   refine (zk3 _ _ _ _ _ hout (by have:=zfZ xs l; simp; omega)).mono ?_;rintro e w3 ⟨rfl,ho,hg⟩
   rw [List.reverse_reverse] at ho;have he3 : Ext w w3:=he'.grown hg (fun k hk=>by have:=(h6 k hk).1; have:=HG.o; omega);clear hg;go_wp2
   go_ret
   exact ⟨_,rfl,he3,_,zbj ho (by have:=HG.o; omega)⟩

open Go.RowKit Go.Mk

theorem zpg (w : World) : za2 Tryz.prog 37 #[] w fun r w'=>∃ n,w'.ownsRow w.heap.size 3 1 r n ((List.replicate 11 (0 : Int)).map I):=by
 unfold za2;have hmk : ∀ w,(Instr.makeSlice 26 (.int .i64 11) (.int .i64 11)).run Tryz.prog w = .ok (.slice (some ⟨w.heap.size,0,none⟩) 11 11) (w.alloc (.cells (List.replicate 11 (I 0)).toArray 3)):=fun _=>by kernel_rfl
 go_enter Tryz.func37,Tryz.ntmps37
 go_wp2
 go_ret
 exact ⟨_,rfl,(Ext.refl _).alloc _,11,World.ownsRow_lit (base:=w.heap.size) (e:=3) (size:=1) w _ 11 (Nat.le_refl _) (by decide) rfl⟩

open Go.RowKit Go.Mk

theorem zn6 (v : Value) (xs : List Int) (w : World) (hv : zbN w v xs) (hr : xs.length * 8 <= 140737488355328) :
  za2 Tryz.prog 75 #[v] w fun r w'=>w'.ownsRow w.heap.size 3 1 r xs.length (xs.map I):=by
 unfold za2;obtain ⟨i0,hi,hz0,hz1,hz2⟩:=info_parts Tryz.infoInt;have hsz : (Tryz.prog.info? 3).map (·.size) = some 1:=by rw [hi]; simp [hz1]
 have hrow : Row w 1 v xs.length (xs.map I):=hv;clear hv;obtain ⟨hlen,ao,cap,rfl,h1,h2,h0,h3⟩:=hrow;unfold maxLen at h2;go_enter Tryz.func75,Tryz.ntmps75
 go_wp2_with (at_make; refine wpList_make_full _ rfl _ _ 26 rfl w.heap.size 3 i0 (.int .i64 0) 1 zu26 hi hz0 hz1 .i64 .i64 _ _ xs.length rfl rfl rfl rfl (by rw [hz2]; omega) (by unfold maxLen; omega) (Nat.le_refl _) ?_; intro w1 hown hgrow)
 have he1 : Ext w w1:=(Ext.refl w).grown hgrow (fun k hk=>by cases hk);obtain ⟨w2,hrun,hown2,hgrow2⟩:=zbX (P:=Tryz.prog) w1 26 3 3 1 zu26 hsz w.heap.size w.heap.size xs.length _ (xs.map I) _ hown (Row.ext ⟨hlen,ao,cap,rfl,h1,h2,h0,h3⟩ he1) (ziH xs);have he2 : Ext w w2:=he1.grown hgrow2 (fun k hk=>by cases hk; exact Nat.le_refl _);rw [hrun];clear hrun hown hgrow hgrow2 he1 h3;go_wp2
 go_ret
 exact ⟨_,rfl,he2,hown2⟩

theorem zlV (v : Value) (xs : List (Int × Int)) (w : World) (hv : zay w v xs) (hr : xs.length * 16 <= 140737488355328) :
  za2 Tryz.prog 76 #[v] w fun r w'=>w'.ownsRow w.heap.size 91 2 r xs.length (zaE xs):=by
 unfold za2;obtain ⟨i0,hi,hz0,hz1,hz2⟩:=info_parts Tryz.infoWrite;have hsz : (Tryz.prog.info? 91).map (·.size) = some 2:=by rw [hi]; simp [hz1]
 have hrow : Row w 2 v xs.length (zaE xs):=hv;clear hv;obtain ⟨hlen,ao,cap,rfl,h1,h2,h0,h3⟩:=hrow;unfold maxLen at h2;go_enter Tryz.func76,Tryz.ntmps76
 go_wp2_with (at_make; refine wpList_make_full _ rfl _ _ 27 rfl w.heap.size 91 i0 (.agg #[.int .i64 0,.int .i64 0]) 2 zu27 hi hz0 hz1 .i64 .i64 _ _ xs.length rfl rfl rfl rfl (by rw [hz2]; omega) (by unfold maxLen; omega) (Nat.le_refl _) ?_; intro w1 hown hgrow)
 have he1 : Ext w w1:=(Ext.refl w).grown hgrow (fun k hk=>by cases hk);obtain ⟨w2,hrun,hown2,hgrow2⟩:=zbX (P:=Tryz.prog) w1 27 3 91 2 zu27 hsz w.heap.size w.heap.size xs.length _ (zaE xs) _ hown (Row.ext ⟨hlen,ao,cap,rfl,h1,h2,h0,h3⟩ he1) (zbB xs);have he2 : Ext w w2:=he1.grown hgrow2 (fun k hk=>by cases hk; exact Nat.le_refl _);rw [hrun];clear hrun hown hgrow hgrow2 he1 h3;go_wp2
 go_ret
 exact ⟨_,rfl,he2,hown2⟩

theorem zon (v : Value) (xs : List An) (w : World) (hv : zax 4 zg3 w v xs) (hr : xs.length * 32 <= 140737488355328) :
  za2 Tryz.prog 77 #[v] w fun r w'=>w'.ownsRow w.heap.size 99 4 r xs.length (zbA xs):=by
 unfold za2;obtain ⟨i0,hi,hz0,hz1,hz2⟩:=info_parts Tryz.infoAnswer;have hsz : (Tryz.prog.info? 99).map (·.size) = some 4:=by rw [hi]; simp [hz1]
 have hrow : Row w 4 v xs.length (zbA xs):=(zdy (f:=fun (x : An)=>[I x.client,I x.token,I x.reply.err,I x.reply.n]) (fun _=>rfl)).1 hv;clear hv;obtain ⟨hlen,ao,cap,rfl,h1,h2,h0,h3⟩:=hrow;unfold maxLen at h2;go_enter Tryz.func77,Tryz.ntmps77
 go_wp2_with (at_make; refine wpList_make_full _ rfl _ _ 28 rfl w.heap.size 99 i0 (.agg #[.int .i64 0,.int .i64 0,.int .i64 0,.int .i64 0]) 4 zu28 hi hz0 hz1 .i64 .i64 _ _ xs.length rfl rfl rfl rfl (by rw [hz2]; omega) (by unfold maxLen; omega) (Nat.le_refl _) ?_; intro w1 hown hgrow)
 have he1 : Ext w w1:=(Ext.refl w).grown hgrow (fun k hk=>by cases hk);obtain ⟨w2,hrun,hown2,hgrow2⟩:=zbX (P:=Tryz.prog) w1 28 3 99 4 zu28 hsz w.heap.size w.heap.size xs.length _ (zbA xs) _ hown (Row.ext ⟨hlen,ao,cap,rfl,h1,h2,h0,h3⟩ he1) (zdz xs);have he2 : Ext w w2:=he1.grown hgrow2 (fun k hk=>by cases hk; exact Nat.le_refl _);rw [hrun];clear hrun hown hgrow hgrow2 he1 h3;go_wp2
 go_ret
 exact ⟨_,rfl,he2,hown2⟩

theorem zoK (v : Value) (xs : List Rq) (w : World) (hv : zax 6 zgZ w v xs) (hr : xs.length * 48 <= 140737488355328) :
  za2 Tryz.prog 78 #[v] w fun r w'=>w'.ownsRow w.heap.size 36 6 r xs.length (zbC xs):=by
 unfold za2;obtain ⟨i0,hi,hz0,hz1,hz2⟩:=info_parts Tryz.infoRequest;have hsz : (Tryz.prog.info? 36).map (·.size) = some 6:=by rw [hi]; simp [hz1]
 have hrow : Row w 6 v xs.length (zbC xs):=zdw.1 hv;clear hv;obtain ⟨hlen,ao,cap,rfl,h1,h2,h0,h3⟩:=hrow;unfold maxLen at h2;go_enter Tryz.func78,Tryz.ntmps78
 go_wp2_with (at_make; refine wpList_make_full _ rfl _ _ 29 rfl w.heap.size 36 i0 (.agg #[.int .i64 0,.int .i64 0,.int .i64 0,.int .i64 0,.int .i64 0,.int .i64 0]) 6 zu29 hi hz0 hz1 .i64 .i64 _ _ xs.length rfl rfl rfl rfl (by rw [hz2]; omega) (by unfold maxLen; omega) (Nat.le_refl _) ?_; intro w1 hown hgrow)
 have he1 : Ext w w1:=(Ext.refl w).grown hgrow (fun k hk=>by cases hk);obtain ⟨w2,hrun,hown2,hgrow2⟩:=zbX (P:=Tryz.prog) w1 29 3 36 6 zu29 hsz w.heap.size w.heap.size xs.length _ (zbC xs) _ hown (Row.ext ⟨hlen,ao,cap,rfl,h1,h2,h0,h3⟩ he1) (zd0 xs);have he2 : Ext w w2:=he1.grown hgrow2 (fun k hk=>by cases hk; exact Nat.le_refl _);rw [hrun];clear hrun hown hgrow hgrow2 he1 h3;go_wp2
 go_ret
 exact ⟨_,rfl,he2,hown2⟩

structure OwnSt (base : Nat) (w : World) (c u a p : Value) (s : St) : Prop where
 cells : w.ownsRow base 3 1 c s.cells.length (s.cells.map I)
 undo : w.ownsRow base 91 2 u s.undo.length (zaE s.undo)
 answers : w.ownsRow base 99 4 a s.answers.length (zbA s.answers)
 past : w.ownsRow base 36 6 p s.past.length (zbC s.past)
theorem OwnSt.rd {base : Nat} {w : World} {c u a p : Value} {s : St} (h : OwnSt base w c u a p s) : Rd (fun k=>base <= k) (fun w=>zcg w [c,u,a,p] s) w :=
 zcP (zdK h.cells) (zd3 h.undo) (zd5 h.answers) (zgQ h.past)
theorem OwnSt.ext {base : Nat} {w w' : World} {c u a p : Value} {s : St} (h : OwnSt base w c u a p s) (he : Ext w w') : OwnSt base w' c u a p s :=
 ⟨zal h.cells he,zal h.undo he,zal h.answers he,zal h.past he⟩
theorem zeT {w : World} {base e size n b : Nat} {v : Value} {xs : List Value} (h : w.ownsRow base e size v n xs) (hb : b < base) : v.ownBlock ≠ some b:=fun e=>by have:=(h.lt b e).1; omega
theorem OwnSt.set {base : Nat} {w : World} {c u a p : Value} {s : St} (h : OwnSt base w c u a p s) {b : Nat} (hb : b < base) (i : Nat) (x : Value) : OwnSt base (w.setCell ⟨b,i,none⟩ x) c u a p s :=
 ⟨zbs h.cells (zeT h.cells hb) i x,zbs h.undo (zeT h.undo hb) i x,zbs h.answers (zeT h.answers hb) i x,zbs h.past (zeT h.past hb) i x⟩
theorem OwnSt.low {b1 b2 : Nat} {w : World} {c u a p : Value} {s : St} (h : OwnSt b1 w c u a p s) (hle : b2 <= b1) : OwnSt b2 w c u a p s:=⟨zbj h.cells hle,zbj h.undo hle,zbj h.answers hle,zbj h.past hle⟩
theorem za7 {w : World} {base e size n : Nat} {v : Value} {xs : List Value} (h : w.ownsRow base e size v n xs) : ∃ ao cap,v = .slice ao n cap:=zam (Row.of_owns h)

def ziE (s : St) : Prop:=s.cells.length * 8 <= 100000000000000 /\ s.undo.length * 16 <= 100000000000000 /\ s.answers.length * 32 <= 100000000000000 /\ s.past.length * 48 <= 100000000000000

theorem zhc (c u a p : Value) (s : St) (w : World) (h : zcg w [c,u,a,p] s) (hs : ziE s) :
  za2 Tryz.prog 49 #[.agg #[c,u,a,p]] w fun r w'=>∃ c' u' a' p',r = .agg #[c',u',a',p'] /\ OwnSt (w.heap.size + 2) w' c' u' a' p' s:=by
 unfold za2;obtain ⟨h1,h2,h3,h4⟩:=zcT.1 h;clear h;have HS:=hd hs;clear hs;unfold ziE at HS;obtain ⟨ca,cc,rfl⟩:=zam h1;obtain ⟨ua,uc,rfl⟩:=zam h2;obtain ⟨aa,ac,rfl⟩:=zaf h3;obtain ⟨pa,pc,rfl⟩:=zaf h4;generalize hc : Value.slice ca s.cells.length cc = c at *;generalize hu : Value.slice ua s.undo.length uc = u at *;generalize ha : Value.slice aa s.answers.length ac = a at *;generalize hp : Value.slice pa s.past.length pc = p at *;clear hc hu ha hp;have e0 : Ext w ((w.alloc (.cells #[c,u,a,p] 31)).alloc (.cells zT4 31)):=((Ext.refl w).alloc _).alloc _;have HB:=hd (fun wx (h : Ext ((w.alloc (.cells #[c,u,a,p] 31)).alloc (.cells zT4 31)) wx)=>And.intro (zc9 h) (zcx h));have hsz : ((w.alloc (.cells #[c,u,a,p] 31)).alloc (.cells zT4 31)).heap.size = w.heap.size + 2:=by simp
 have HSZ:=hd hsz;clear hsz;go_enter Tryz.func49,Tryz.ntmps49
 go_wp2_with fail
 generalize hw0 : (w.alloc (.cells #[c,u,a,p] 31)).alloc (.cells zT4 31) = w0 at *;clear hw0;obtain ⟨b0,-⟩:=HB.o w0 (Ext.refl _);obtain ⟨x0,x1,x2,x3,-⟩:=zcc b0;clear b0;refine zap 12 [none,none,some (.inr (fun v wx=>wx.ownsRow w0.heap.size 3 1 v s.cells.length (s.cells.map I))),none,none,some (.inr (fun v wx=>wx.ownsRow w0.heap.size 91 2 v s.undo.length (zaE s.undo))),none,none,some (.inr (fun v wx=>wx.ownsRow w0.heap.size 99 4 v s.answers.length (zbA s.answers))),none,none,some (.inr (fun v wx=>wx.ownsRow w0.heap.size 36 6 v s.past.length (zbC s.past)))] (by kernel_rfl) (by kernel_rfl) ?_ ?_
 ·exact ⟨trivial,trivial,zca _ _ _ _ _,trivial,trivial,zca _ _ _ _ _,trivial,trivial,zca _ _ _ _ _,trivial,trivial,zca _ _ _ _ _,trivial⟩
 (refine zau (fun K hK=>?_); go_simp; first | refine hK _ ?_ | refine ⟨(fun h=>by cases h),hK _ ?_⟩; clear hK K)
 refine zaF (c) rfl (fun w' hw'=>by have q0:=hw'.cell x0; go_simp) ?_;refine zan fun K h=>?_; go_simp; refine h _ ?_; clear h K;refine za8 _ rfl (fun w' hw' hk=>?_) (fun v5=>?_)
 ·have hw2:=e0.trans hw';have hle:=hw'.size;clear hk;unfold zaT;go_simp
  exact ⟨Ext.refl _,(zn6 c s.cells w' (h1.ext hw2) (by have:=HS.o.1; omega)).mono fun _ _ _ h=>zbj h hle⟩
 refine zan fun K h=>?_; go_simp; refine h _ ?_; clear h K;(refine zau (fun K hK=>?_); go_simp; first | refine hK _ ?_ | refine ⟨(fun h=>by cases h),hK _ ?_⟩; clear hK K)
 refine zaF (u) rfl (fun w' hw'=>by have q0:=hw'.cell x1; go_simp) ?_;refine zan fun K h=>?_; go_simp; refine h _ ?_; clear h K;refine za8 _ rfl (fun w' hw' hk=>?_) (fun v8=>?_)
 ·have hw2:=e0.trans hw';have hle:=hw'.size;clear hk;unfold zaT;go_simp
  exact ⟨Ext.refl _,(zlV u s.undo w' (h2.ext hw2) (by have:=HS.o.2.1; omega)).mono fun _ _ _ h=>zbj h hle⟩
 refine zan fun K h=>?_; go_simp; refine h _ ?_; clear h K;(refine zau (fun K hK=>?_); go_simp; first | refine hK _ ?_ | refine ⟨(fun h=>by cases h),hK _ ?_⟩; clear hK K)
 refine zaF (a) rfl (fun w' hw'=>by have q0:=hw'.cell x2; go_simp) ?_;refine zan fun K h=>?_; go_simp; refine h _ ?_; clear h K;refine za8 _ rfl (fun w' hw' hk=>?_) (fun v11=>?_)
 ·have hw2:=e0.trans hw';have hle:=hw'.size;clear hk;unfold zaT;go_simp
  exact ⟨Ext.refl _,(zon a s.answers w' (h3.ext zgc hw2) (by have:=HS.o.2.2.1; omega)).mono fun _ _ _ h=>zbj h hle⟩
 refine zan fun K h=>?_; go_simp; refine h _ ?_; clear h K;(refine zau (fun K hK=>?_); go_simp; first | refine hK _ ?_ | refine ⟨(fun h=>by cases h),hK _ ?_⟩; clear hK K)
 refine zaF (p) rfl (fun w' hw'=>by have q0:=hw'.cell x3; go_simp) ?_;refine zan fun K h=>?_; go_simp; refine h _ ?_; clear h K;refine za8 _ rfl (fun w' hw' hk=>?_) (fun v14=>?_)
 ·have hw2:=e0.trans hw';have hle:=hw'.size;clear hk;unfold zaT;go_simp
  exact ⟨Ext.refl _,(zoK p s.past w' (h4.ext ziM hw2) (by have:=HS.o.2.2.2; omega)).mono fun _ _ _ h=>zbj h hle⟩
 refine zan fun K h=>?_; go_simp; refine h _ ?_; clear h K;refine za4 ?_;intro w1 e1 hX;have o0 : w1.ownsRow w0.heap.size 3 1 v5 s.cells.length (s.cells.map I):=hX 5;have o1 : w1.ownsRow w0.heap.size 91 2 v8 s.undo.length (zaE s.undo):=hX 8;have o2 : w1.ownsRow w0.heap.size 99 4 v11 s.answers.length (zbA s.answers):=hX 11;have o3 : w1.ownsRow w0.heap.size 36 6 v14 s.past.length (zbC s.past):=hX 14;clear hX x0 x1 x2 x3;have ho : OwnSt w0.heap.size w1 v5 v8 v11 v14 s:=⟨o0,o1,o2,o3⟩;obtain ⟨ka,kc,hk0⟩:=za7 o0;obtain ⟨la,lc,hk1⟩:=za7 o1;obtain ⟨ma,mc,hk2⟩:=za7 o2;obtain ⟨na,nc,hk3⟩:=za7 o3;subst hk0 hk1 hk2 hk3;clear o0 o1 o2 o3;have HO:=hd ho;clear ho;obtain ⟨-,b1⟩:=HB.o w1 e1;obtain ⟨y0,y1,y2,y3,f0,f1,f2,f3⟩:=zcc b1;go_wp2_with fail
 clear y0 y1 y2 y3 f0 f1 f2 f3;have b2:=set4 b1 (.slice ka s.cells.length kc) (.slice la s.undo.length lc) (.slice ma s.answers.length mc) (.slice na s.past.length nc);obtain ⟨q0,q1,q2,q3,-⟩:=zcc b2;have m2:=zb3 (e0.trans e1) (b:=w.heap.size + 1) (by omega) (.slice ka s.cells.length kc) (.slice la s.undo.length lc) (.slice ma s.answers.length mc) (.slice na s.past.length nc);have hlt : w.heap.size + 1 < w0.heap.size:=by rw [HSZ.o]; omega
 refine bodyPost_ret (by simp [results,Tryz.results49,go_sem,q0,q1,q2,q3]; rfl) rfl ?_;exact ⟨_,rfl,m2,_,_,_,_,rfl,((((HO.o.set hlt _ _).set hlt _ _).set hlt _ _).set hlt _ _).low (by rw [HSZ.o]; exact Nat.le_refl _)⟩

end Go.Proofs.YtikbhmnjlmbeeaeGreat

/- Texts of the proof, merged: W3 W4 S7 N1. -/
import Derived.Test.YtdmipnnfoolelaeGreatKUA
import Derived.Test.YtdmipnnfoolelaeGreatKUM
import Derived.BigRegion
import Derived.Test.YtdmipnnfoolelaeGreatKUI
import Derived.Test.YtdmipnnfoolelaeGreatKUE
set_option maxHeartbeats 2000000
set_option maxRecDepth 100000

namespace Go.Proofs.YtdmipnnfoolelaeGreat
open Go.RowKit Go.Mk

theorem zlN (v:Value) (us:List (Int×Int)) (n base:Nat) (w:World) (ho:w.ownsRow base 91 2 v n (zaA us)) (hr:us.length * 16<=140737488355328) :
  Calls Tryz.prog 112 #[v] w fun e w'=>e=.returned (.tuple #[])/\w'.ownsRow base 91 2 v n (zaA us.reverse)/\w.grownBy w' v.ownBlock:=by
 have hn:us.length=n:=by have:=ho.1; rw [zcn] at this; omega
 rcases ho.2 with ⟨rfl,hz⟩ | ⟨g,cap,cur,rfl,hb,hg,hnc,hcm,_⟩
 ·have:us=[]:=List.eq_nil_of_length_eq_zero (by omega);subst this;go_enter Tryz.func112,Tryz.ntmps112
  go_wp2
  refine wp_loop_rounds 1 ?_;rw [rounds_succ];go_wp2
  go_end0
  exact ⟨rfl,ho,World.grownBy.refl _ _⟩
 ·clear hg;unfold maxLen at hcm;go_enter Tryz.func112,Tryz.ntmps112
  go_wp2
  go_loopw [2,3] (fun i j wr=>∃ k:Nat,2 * k<=n/\i=I k/\j=I ((n:Int) - 1 - k)/\wr.ownsRow base 91 2 (.slice (some ⟨g,0,none⟩) n cap) n (zaA (rv us k))/\w.grownBy wr (some g)) (fun i _ _=>n - (intOf i).toNat)
  case atStart=>exact ⟨0,by omega,rfl,by simp,by rw [zql]; exact ho,World.grownBy.refl _ _⟩
  case round =>
   obtain ⟨k,hk,rfl,rfl,hown,hgr⟩:=hrel;by_cases hlt:2 * k+1 < n
   ·have hlen:=zhX us k;obtain ⟨r1,r2⟩:=zru us k (by omega);obtain ⟨c1,c2⟩:=zfk (rv us k) k (by omega);obtain ⟨c3,c4⟩:=zfk (rv us k) (us.length - 1 - k) (by omega);rw [r1] at c1 c2;rw [r2] at c3 c4;rw [<- hown.cellAt _ (by omega)] at c1 c2 c3 c4;have HS:Hid (rv us (k+1)=((rv us k).set k (us.getD (us.length - 1 - k) (0,0))).set (us.length - 1 - k) (us.getD k (0,0))):=zqh us k (by omega);generalize us.getD k (0,0)=p at *;generalize us.getD (us.length - 1 - k) (0,0)=q at *;obtain ⟨p1,p2⟩:=p;obtain ⟨q1,q2⟩:=q;simp only [] at c1 c2 c3 c4;have hj:us.length - 1 - k=n - 1 - k:=by rw [hn]
    rw [hj] at c3 c4 HS;generalize hJ:n - 1 - k=J at *;have hJ':(n:Int) - 1 - k=(J:Int):=by omega
    rw [hJ'];go_wp2_with fail
    have f1:wr.frozen? ⟨g,k * 2,none⟩=false:=hown.frozenAt _;have f2:wr.frozen? ⟨g,k * 2+1,none⟩=false:=hown.frozenAt _;have f3:wr.frozen? ⟨g,J * 2,none⟩=false:=hown.frozenAt _;have f4:wr.frozen? ⟨g,J * 2+1,none⟩=false:=hown.frozenAt _;have hJn:J < n:=by omega
    have hkn:k < n:=by omega
    have hkJ:k < J:=by omega
    go_region
    have s1:=hown.stored (k * 2) (I q1);have s2:=s1.1.stored (k * 2+1) (I q2);have s3:=s2.1.stored (J * 2) (I p1);have s4:=s3.1.stored (J * 2+1) (I p2);have hgr':w.grownBy _ (some g):=za1 (za1 (za1 (za1 hgr s1.2) s2.2) s3.2) s4.2;have hown':=s4.1;clear s1 s2 s3 s4 c1 c2 c3 c4 f1 f2 f3 f4;go_wp2
    go_roundw
    case rel =>
     refine ⟨k+1,by omega,by go_num,by go_num,?_,zjq hgr'⟩;rw [HS.o,zfD,zfD];exact hown'
    case measure=>simp [intOf]; omega
   ·go_wp2
    go_end0
    rw [zrc us k (by omega)] at hown;exact ⟨rfl,hown,hgr⟩

theorem zpD (v u:Value) (xs:List Int) (l:List (Int×Int)) (w:World) (hv:zbB w v xs) (hu:zax w u l) (hr:xs.length * 8<=140737488355328) (hr2:l.length * 16<=140737488355328) :
  zaU Tryz.prog 99 #[v,u] w fun r w'=>∃ n,w'.ownsRow w.heap.size 91 2 r n (zaA (zbO xs l)):=by
 unfold zaU;obtain ⟨i0,hi,hz0,hz1,hz2⟩:=info_parts Tryz.infoWrite;obtain ⟨ao,cap,rfl,h1,h2,h3⟩:=hu.form;unfold maxLen at h2;go_enter Tryz.func99,Tryz.ntmps99
 go_wp2_with fail
 refine (znn v xs _ hv hr).mono ?_;rintro e w1 ⟨rfl,hown,he⟩
 generalize hg:w.heap.size=g at hown ⊢;have HG:Hid (w.heap.size=g):=hg;clear hg;have hsz1:g+1<=w1.heap.size:=(hown.lt g rfl).2;go_wp2_with fail
 go_loopw [6,13] (fun o i wr=>∃ k:Nat,k<=l.length/\i=I k/\wr.ownsRow g 3 1 (.slice (some ⟨g,0,none⟩) xs.length xs.length) xs.length ((zaC xs (l.take k)).map I) /\
   wr.ownsRow (g+1) 91 2 o (zbO xs (l.take k)).reverse.length (zaA (zbO xs (l.take k)).reverse)/\g+1<=wr.heap.size/\Ext w wr) (fun _ i _=>l.length - (intOf i).toNat)
 case atStart=>exact ⟨0,by omega,rfl,hown,World.ownsRow_nil _ _ _ _,hsz1,he⟩
 case round =>
  obtain ⟨k,hk,rfl,hown',hout,hsz,he'⟩:=hrel;clear hown he;have hul:(zbO xs (l.take k)).reverse.length<=k:=by have:=zgk xs (l.take k); simp at this ⊢; omega
  have h6:=hout.lt;by_cases hlt:k < l.length
  ·obtain ⟨b,off,rfl,hc1,hc2⟩:=h3 k hlt;clear h3;have hd1:=he'.cell hc1;have hd2:=he'.cell hc2;clear hc1 hc2;generalize hp:l.getD k (0,0)=p at hd1 hd2;have HP:Hid (l[k]?=some p):=by unfold Hid; rw [<- hp]; simp [hlt]
   clear hp;obtain ⟨at_,n⟩:=p;simp only [] at hd1 hd2;have hyl:(zaC xs (l.take k)).length=xs.length:=zbR _ _;have HN:Hid (zaC xs (l.take (k+1))=zdj (zaC xs (l.take k)) (at_,n)):=by unfold Hid; rw [List.take_add_one,HP.o]; exact zgd _ _ _
   have HU:Hid ((zbO xs (l.take (k+1))).reverse=(zbO xs (l.take k)).reverse++(if 0<=at_/\at_ < (xs.length:Int) then [(at_,(zaC xs (l.take k)).getD at_.toNat 0)] else [])):=by
    unfold Hid;rw [List.take_add_one,HP.o];show (zbO xs (l.take k++[(at_,n)])).reverse=_
    rw [zkJ,List.reverse_append];split <;> simp
   generalize zaC xs (l.take k)=ys at hown' HN HU hyl;generalize (zbO xs (l.take k)).reverse=us at hout HU hul;have HYL:Hid (ys.length=xs.length):=hyl;clear hyl;have hown2:=fun o=>hown'.alloc o;have fz:∀ o,(wr.alloc o).frozen? ⟨g,at_.toNat,none⟩=false:=fun o=>(hown2 o).frozenAt _;by_cases hin:0<=at_/\at_ < (xs.length:Int)
   ·obtain ⟨i1,i2⟩:=hin
    have hc:∀ o,(wr.alloc o).cell? ⟨g,at_.toNat,none⟩=some (I (ys.getD at_.toNat 0)):=fun o=>by
     rw [(hown2 o).cellAt _ (by omega)];have:at_.toNat < ys.length:=by rw [HYL.o]; omega
     simp [this]
    have i3:at_ < (ys.length:Int):=by rw [HYL.o]; exact i2
    go_wp2_with (go_at_call 111; refine Calls.same (ziz _ ys at_ _ (zdl (hown2 _))) ?_)
    have hout2:=hout.alloc (Obj.cells #[Value.int IntKind.i64 at_,Value.int IntKind.i64 n] 91);have hown3:=hown2 (Obj.cells #[Value.int IntKind.i64 at_,Value.int IntKind.i64 n] 91);have he3:=he'.alloc (Obj.cells #[Value.int IntKind.i64 at_,Value.int IntKind.i64 n] 91);have hsz3:g+1<=(wr.alloc (Obj.cells #[Value.int IntKind.i64 at_,Value.int IntKind.i64 n] 91)).heap.size:=by simp; omega
    have e1:(wr.alloc (Obj.cells #[Value.int IntKind.i64 at_,Value.int IntKind.i64 n] 91)).cell? ⟨wr.heap.size,0,none⟩=some (I at_):=by simp
    have e1':(wr.alloc (Obj.cells #[Value.int IntKind.i64 at_,Value.int IntKind.i64 n] 91)).cell? ⟨wr.heap.size,1,none⟩=some (I n):=by simp
    have e2:=hc (Obj.cells #[Value.int IntKind.i64 at_,Value.int IntKind.i64 n] 91);have hwr:wr.heap.size < (wr.alloc (Obj.cells #[Value.int IntKind.i64 at_,Value.int IntKind.i64 n] 91)).heap.size:=by simp
    generalize wr.alloc (Obj.cells #[Value.int IntKind.i64 at_,Value.int IntKind.i64 n] 91)=W at *;clear hd1 hd2 hown2 fz hc hown' hout hsz he';generalize hY:ys.getD at_.toNat 0=y at *;refine zan 10 [none,none,none,none,none,none,none,none,none,some (.inr fun v w=>zax w v [(at_,y)])] (by kernel_rfl) (by kernel_rfl) ?_ ?_
    ·exact ⟨trivial,trivial,trivial,trivial,trivial,trivial,trivial,trivial,trivial,zeI _,trivial⟩
    iterate 2 (refine zap (fun K hK=>?_); go_simp; refine hK _ ?_; clear hK K)
    refine zav (I at_) rfl (fun w' hw'=>by have:=hw'.cell e1; go_simp) ?_;iterate 2 (refine zap (fun K hK=>?_); go_simp; refine hK _ ?_; clear hK K)
    refine zav (I at_) rfl (fun w' hw'=>by have:=hw'.cell e1; go_simp) ?_;(refine zap (fun K hK=>?_); go_simp; refine hK _ ?_; clear hK K)
    refine zav (I y) rfl (fun w' hw'=>by have:=hw'.cell e2; go_simp) ?_;(refine zap (fun K hK=>?_); go_simp; refine hK _ ?_; clear hK K)
    refine za9 _ rfl (fun w' hw' _=>?_) (fun v30=>?_)
    ·unfold zaL;go_simp
     exact ⟨(Ext.refl _).alloc _,zcJ _ _ _ 1 rfl rfl (by decide)⟩
    refine zaM ?_;intro w2 he2 hF;have h30:zax w2 v30 [(at_,y)]:=hF 30;clear hF;have e3:=he2.cell e1;have e3':=he2.cell e1';refine zaz _ rfl (.tmp 21) (.tmp 30) 27 rfl (g+1) 91 i0 _ 2 16 zfq hi hz0 hz1 hz2 rfl (by decide) u6 us.length (zaA us) rfl ?_ v30 rfl 1 _ h30 (zbz _) (by omega) (by decide) ?_ ?_
    ·exact zak hout2 he2
    ·exact Nat.le_trans hsz3 he2.size
    intro o' w3 ho hg3;have hneg:u6.ownBlock≠some g:=fun e=>by have:=(h6 g e).1; omega
    have hnep:u6.ownBlock≠some wr.heap.size:=fun e=>by have:=(h6 _ e).2; omega
    have e4:=zhn hg3 e3 hnep;have e4':=zhn hg3 e3' hnep;have hown4:=(zak hown3 he2).kept hg3 (.inr (fun e=>hneg e.symm));have he4:Ext w w3:=(he3.trans he2).grown hg3 (fun k hk=>by have:=(h6 k hk).1; have:=HG.o; omega);have hsz4:g+1<=w3.heap.size:=Nat.le_trans hsz3 (Nat.le_trans he2.size hg3.size);have e5:w3.cell? ⟨g,at_.toNat,none⟩=some (I y):=zhn hg3 (he2.cell e2) hneg;have f5:w3.frozen? ⟨g,at_.toNat,none⟩=false:=hown4.frozenAt _;clear e1 e1' e2 e3 e3' hown3 hout2 he3 hsz3 hg3 he2 h30 hwr;go_wp2
    go_roundw
    case rel =>
     have hst:=hown4.stored at_.toNat (I n);have ho2:=ho.kept hst.2 (.inr (fun e=>by have:=(ho.lt g e).1; omega));refine ⟨k+1,by omega,by go_num,?_,?_,by simpa using hsz4,he4.setCell (by rw [HG.o]; exact Nat.le_refl _) _⟩
     ·rw [HN.o];unfold zdj;rw [if_pos ⟨i1,i3⟩,List.map_set];exact hst.1
     ·rw [HU.o,if_pos ⟨i1,i2⟩,zbl,List.length_append];exact ho2
    case measure=>simp [intOf]; omega
   ·have hdc:decide (0<=at_/\at_ < (ys.length:Int))=false:=by rw [HYL.o]; simp; omega
    go_wp2_with (go_at_call 111; refine Calls.same (ziz _ ys at_ _ (zdl (hown2 _))) ?_)
    go_roundw
    case rel =>
     refine ⟨k+1,by omega,by go_num,?_,?_,by simp; omega,he'.alloc _⟩
     ·rw [HN.o];unfold zdj;rw [if_neg (by rw [HYL.o]; exact hin)];exact hown2 _
     ·rw [HU.o,if_neg hin,List.append_nil];exact hout.alloc _
    case measure=>simp [intOf]; omega
  ·rw [List.take_of_length_le (by omega)] at hout;clear hown' h3;go_wp2_with fail
   refine (zlN _ _ _ _ _ hout (by have:=zgk xs l; simp; omega)).mono ?_;rintro e w3 ⟨rfl,ho,hg⟩
   rw [List.reverse_reverse] at ho;have he3:Ext w w3:=he'.grown hg (fun k hk=>by have:=(h6 k hk).1; have:=HG.o; omega);clear hg;go_wp2
   go_ret
   exact ⟨_,rfl,he3,_,zbe ho (by have:=HG.o; omega)⟩

open Go.RowKit Go.Mk

theorem zqr (w:World):zaU Tryz.prog 37 #[] w fun r w'=>∃ n,w'.ownsRow w.heap.size 3 1 r n ((List.replicate 11 (0:Int)).map I):=by
 unfold zaU;have hmk:∀ w,(Instr.makeSlice 26 (.int .i64 11) (.int .i64 11)).run Tryz.prog w=.ok (.slice (some ⟨w.heap.size,0,none⟩) 11 11) (w.alloc (.cells (List.replicate 11 (I 0)).toArray 3)):=fun _=>by kernel_rfl
 go_enter Tryz.func37,Tryz.ntmps37
 go_wp2
 go_ret
 exact ⟨_,rfl,(Ext.refl _).alloc _,11,World.ownsRow_lit (base:=w.heap.size) (e:=3) (size:=1) w _ 11 (Nat.le_refl _) (by decide) rfl⟩

open Go.RowKit Go.Mk

theorem zoL (v:Value) (xs:List Int) (w:World) (hv:zbB w v xs) (hr:xs.length * 8<=140737488355328) :
  zaU Tryz.prog 75 #[v] w fun r w'=>w'.ownsRow w.heap.size 3 1 r xs.length (xs.map I):=by
 unfold zaU;obtain ⟨i0,hi,hz0,hz1,hz2⟩:=info_parts Tryz.infoInt;have hsz:(Tryz.prog.info? 3).map (·.size)=some 1:=by rw [hi]; simp [hz1]
 have hrow:Row w 1 v xs.length (xs.map I):=hv;clear hv;obtain ⟨hlen,ao,cap,rfl,h1,h2,h0,h3⟩:=hrow;unfold maxLen at h2;go_enter Tryz.func75,Tryz.ntmps75
 go_wp2_with (at_make; refine wpList_make_full _ rfl _ _ 26 rfl w.heap.size 3 i0 (.int .i64 0) 1 zmA hi hz0 hz1 .i64 .i64 _ _ xs.length rfl rfl rfl rfl (by rw [hz2]; omega) (by unfold maxLen; omega) (Nat.le_refl _) ?_; intro w1 hown hgrow)
 have he1:Ext w w1:=(Ext.refl w).grown hgrow (fun k hk=>by cases hk);obtain ⟨w2,hrun,hown2,hgrow2⟩:=zbU (P:=Tryz.prog) w1 26 3 3 1 zmA hsz w.heap.size w.heap.size xs.length _ (xs.map I) _ hown (Row.ext ⟨hlen,ao,cap,rfl,h1,h2,h0,h3⟩ he1) (zjI xs);have he2:Ext w w2:=he1.grown hgrow2 (fun k hk=>by cases hk; exact Nat.le_refl _);rw [hrun];clear hrun hown hgrow hgrow2 he1 h3;go_wp2
 go_ret
 exact ⟨_,rfl,he2,hown2⟩

theorem zmU (v:Value) (xs:List (Int×Int)) (w:World) (hv:zax w v xs) (hr:xs.length * 16<=140737488355328) :
  zaU Tryz.prog 76 #[v] w fun r w'=>w'.ownsRow w.heap.size 91 2 r xs.length (zaA xs):=by
 unfold zaU;obtain ⟨i0,hi,hz0,hz1,hz2⟩:=info_parts Tryz.infoWrite;have hsz:(Tryz.prog.info? 91).map (·.size)=some 2:=by rw [hi]; simp [hz1]
 have hrow:Row w 2 v xs.length (zaA xs):=hv;clear hv;obtain ⟨hlen,ao,cap,rfl,h1,h2,h0,h3⟩:=hrow;unfold maxLen at h2;go_enter Tryz.func76,Tryz.ntmps76
 go_wp2_with (at_make; refine wpList_make_full _ rfl _ _ 27 rfl w.heap.size 91 i0 (.agg #[.int .i64 0,.int .i64 0]) 2 zfq hi hz0 hz1 .i64 .i64 _ _ xs.length rfl rfl rfl rfl (by rw [hz2]; omega) (by unfold maxLen; omega) (Nat.le_refl _) ?_; intro w1 hown hgrow)
 have he1:Ext w w1:=(Ext.refl w).grown hgrow (fun k hk=>by cases hk);obtain ⟨w2,hrun,hown2,hgrow2⟩:=zbU (P:=Tryz.prog) w1 27 3 91 2 zfq hsz w.heap.size w.heap.size xs.length _ (zaA xs) _ hown (Row.ext ⟨hlen,ao,cap,rfl,h1,h2,h0,h3⟩ he1) (zbz xs);have he2:Ext w w2:=he1.grown hgrow2 (fun k hk=>by cases hk; exact Nat.le_refl _);rw [hrun];clear hrun hown hgrow hgrow2 he1 h3;go_wp2
 go_ret
 exact ⟨_,rfl,he2,hown2⟩

theorem zo5 (v:Value) (xs:List An) (w:World) (hv:zar 4 zhH w v xs) (hr:xs.length * 32<=140737488355328) :
  zaU Tryz.prog 77 #[v] w fun r w'=>w'.ownsRow w.heap.size 99 4 r xs.length (zbv xs):=by
 unfold zaU;obtain ⟨i0,hi,hz0,hz1,hz2⟩:=info_parts Tryz.infoAnswer;have hsz:(Tryz.prog.info? 99).map (·.size)=some 4:=by rw [hi]; simp [hz1]
 have hrow:Row w 4 v xs.length (zbv xs):=(zdz (f:=fun (x:An)=>[I x.client,I x.token,I x.reply.err,I x.reply.n]) (fun _=>rfl)).1 hv;clear hv;obtain ⟨hlen,ao,cap,rfl,h1,h2,h0,h3⟩:=hrow;unfold maxLen at h2;go_enter Tryz.func77,Tryz.ntmps77
 go_wp2_with (at_make; refine wpList_make_full _ rfl _ _ 28 rfl w.heap.size 99 i0 (.agg #[.int .i64 0,.int .i64 0,.int .i64 0,.int .i64 0]) 4 zlI hi hz0 hz1 .i64 .i64 _ _ xs.length rfl rfl rfl rfl (by rw [hz2]; omega) (by unfold maxLen; omega) (Nat.le_refl _) ?_; intro w1 hown hgrow)
 have he1:Ext w w1:=(Ext.refl w).grown hgrow (fun k hk=>by cases hk);obtain ⟨w2,hrun,hown2,hgrow2⟩:=zbU (P:=Tryz.prog) w1 28 3 99 4 zlI hsz w.heap.size w.heap.size xs.length _ (zbv xs) _ hown (Row.ext ⟨hlen,ao,cap,rfl,h1,h2,h0,h3⟩ he1) (zdC xs);have he2:Ext w w2:=he1.grown hgrow2 (fun k hk=>by cases hk; exact Nat.le_refl _);rw [hrun];clear hrun hown hgrow hgrow2 he1 h3;go_wp2
 go_ret
 exact ⟨_,rfl,he2,hown2⟩

theorem zp8 (v:Value) (xs:List Rq) (w:World) (hv:zar 6 zg8 w v xs) (hr:xs.length * 48<=140737488355328) :
  zaU Tryz.prog 78 #[v] w fun r w'=>w'.ownsRow w.heap.size 36 6 r xs.length (zbA xs):=by
 unfold zaU;obtain ⟨i0,hi,hz0,hz1,hz2⟩:=info_parts Tryz.infoRequest;have hsz:(Tryz.prog.info? 36).map (·.size)=some 6:=by rw [hi]; simp [hz1]
 have hrow:Row w 6 v xs.length (zbA xs):=zdF.1 hv;clear hv;obtain ⟨hlen,ao,cap,rfl,h1,h2,h0,h3⟩:=hrow;unfold maxLen at h2;go_enter Tryz.func78,Tryz.ntmps78
 go_wp2_with (at_make; refine wpList_make_full _ rfl _ _ 29 rfl w.heap.size 36 i0 (.agg #[.int .i64 0,.int .i64 0,.int .i64 0,.int .i64 0,.int .i64 0,.int .i64 0]) 6 zmB hi hz0 hz1 .i64 .i64 _ _ xs.length rfl rfl rfl rfl (by rw [hz2]; omega) (by unfold maxLen; omega) (Nat.le_refl _) ?_; intro w1 hown hgrow)
 have he1:Ext w w1:=(Ext.refl w).grown hgrow (fun k hk=>by cases hk);obtain ⟨w2,hrun,hown2,hgrow2⟩:=zbU (P:=Tryz.prog) w1 29 3 36 6 zmB hsz w.heap.size w.heap.size xs.length _ (zbA xs) _ hown (Row.ext ⟨hlen,ao,cap,rfl,h1,h2,h0,h3⟩ he1) (zd5 xs);have he2:Ext w w2:=he1.grown hgrow2 (fun k hk=>by cases hk; exact Nat.le_refl _);rw [hrun];clear hrun hown hgrow hgrow2 he1 h3;go_wp2
 go_ret
 exact ⟨_,rfl,he2,hown2⟩

structure OwnSt (base:Nat) (w:World) (c u a p:Value) (s:St):Prop where
 cells:w.ownsRow base 3 1 c s.cells.length (s.cells.map I)
 undo:w.ownsRow base 91 2 u s.undo.length (zaA s.undo)
 answers:w.ownsRow base 99 4 a s.answers.length (zbv s.answers)
 past:w.ownsRow base 36 6 p s.past.length (zbA s.past)
theorem OwnSt.rd {base:Nat} {w:World} {c u a p:Value} {s:St} (h:OwnSt base w c u a p s):Rd (fun k=>base<=k) (fun w=>zb8 w [c,u,a,p] s) w :=
 zc8 (zdR h.cells) (zd4 h.undo) (zel h.answers) (zg6 h.past)
theorem OwnSt.ext {base:Nat} {w w':World} {c u a p:Value} {s:St} (h:OwnSt base w c u a p s) (he:Ext w w'):OwnSt base w' c u a p s :=
 ⟨zak h.cells he,zak h.undo he,zak h.answers he,zak h.past he⟩
theorem ze2 {w:World} {base e size n b:Nat} {v:Value} {xs:List Value} (h:w.ownsRow base e size v n xs) (hb:b < base):v.ownBlock≠some b:=fun e=>by have:=(h.lt b e).1; omega
theorem OwnSt.set {base:Nat} {w:World} {c u a p:Value} {s:St} (h:OwnSt base w c u a p s) {b:Nat} (hb:b < base) (i:Nat) (x:Value):OwnSt base (w.setCell ⟨b,i,none⟩ x) c u a p s :=
 ⟨zbo h.cells (ze2 h.cells hb) i x,zbo h.undo (ze2 h.undo hb) i x,zbo h.answers (ze2 h.answers hb) i x,zbo h.past (ze2 h.past hb) i x⟩
theorem OwnSt.low {b1 b2:Nat} {w:World} {c u a p:Value} {s:St} (h:OwnSt b1 w c u a p s) (hle:b2<=b1):OwnSt b2 w c u a p s:=⟨zbe h.cells hle,zbe h.undo hle,zbe h.answers hle,zbe h.past hle⟩
theorem za0 {w:World} {base e size n:Nat} {v:Value} {xs:List Value} (h:w.ownsRow base e size v n xs):∃ ao cap,v=.slice ao n cap:=zao (Row.of_owns h)

def zjg (s:St):Prop:=s.cells.length * 8<=100000000000000/\s.undo.length * 16<=100000000000000/\s.answers.length * 32<=100000000000000/\s.past.length * 48<=100000000000000

theorem zhu (c u a p:Value) (s:St) (w:World) (h:zb8 w [c,u,a,p] s) (hs:zjg s) :
  zaU Tryz.prog 49 #[.agg #[c,u,a,p]] w fun r w'=>∃ c' u' a' p',r=.agg #[c',u',a',p']/\OwnSt (w.heap.size+2) w' c' u' a' p' s:=by
 unfold zaU;obtain ⟨h1,h2,h3,h4⟩:=zcp.1 h;clear h;have HS:=zhd hs;clear hs;unfold zjg at HS;obtain ⟨ca,cc,rfl⟩:=zao h1;obtain ⟨ua,uc,rfl⟩:=zao h2;obtain ⟨aa,ac,rfl⟩:=zaf h3;obtain ⟨pa,pc,rfl⟩:=zaf h4;generalize hc:Value.slice ca s.cells.length cc=c at *;generalize hu:Value.slice ua s.undo.length uc=u at *;generalize ha:Value.slice aa s.answers.length ac=a at *;generalize hp:Value.slice pa s.past.length pc=p at *;clear hc hu ha hp;have e0:Ext w ((w.alloc (.cells #[c,u,a,p] 31)).alloc (.cells zT4 31)):=((Ext.refl w).alloc _).alloc _;have HB:=zhd (fun wx (h:Ext ((w.alloc (.cells #[c,u,a,p] 31)).alloc (.cells zT4 31)) wx)=>And.intro (zcT h) (zcm h));have hsz:((w.alloc (.cells #[c,u,a,p] 31)).alloc (.cells zT4 31)).heap.size=w.heap.size+2:=by simp
 have HSZ:=zhd hsz;clear hsz;go_enter Tryz.func49,Tryz.ntmps49
 go_wp2_with fail
 generalize hw0:(w.alloc (.cells #[c,u,a,p] 31)).alloc (.cells zT4 31)=w0 at *;clear hw0;obtain ⟨b0,-⟩:=HB.o w0 (Ext.refl _);obtain ⟨x0,x1,x2,x3,-⟩:=box4 b0;clear b0;refine zan 12 [none,none,some (.inr (fun v wx=>wx.ownsRow w0.heap.size 3 1 v s.cells.length (s.cells.map I))),none,none,some (.inr (fun v wx=>wx.ownsRow w0.heap.size 91 2 v s.undo.length (zaA s.undo))),none,none,some (.inr (fun v wx=>wx.ownsRow w0.heap.size 99 4 v s.answers.length (zbv s.answers))),none,none,some (.inr (fun v wx=>wx.ownsRow w0.heap.size 36 6 v s.past.length (zbA s.past)))] (by kernel_rfl) (by kernel_rfl) ?_ ?_
 ·exact ⟨trivial,trivial,zcb _ _ _ _ _,trivial,trivial,zcb _ _ _ _ _,trivial,trivial,zcb _ _ _ _ _,trivial,trivial,zcb _ _ _ _ _,trivial⟩
 (refine zap (fun K hK=>?_); go_simp; first | refine hK _ ?_ | refine ⟨(fun h=>by cases h),hK _ ?_⟩; clear hK K)
 refine zav (c) rfl (fun w' hw'=>by have q0:=hw'.cell x0; go_simp) ?_;refine zai fun K h=>?_; go_simp; refine h _ ?_; clear h K;refine za9 _ rfl (fun w' hw' hk=>?_) (fun v5=>?_)
 ·have hw2:=e0.trans hw';have hle:=hw'.size;clear hk;unfold zaL;go_simp
  exact ⟨Ext.refl _,(zoL c s.cells w' (h1.ext hw2) (by have:=HS.o.1; omega)).mono fun _ _ _ h=>zbe h hle⟩
 refine zai fun K h=>?_; go_simp; refine h _ ?_; clear h K;(refine zap (fun K hK=>?_); go_simp; first | refine hK _ ?_ | refine ⟨(fun h=>by cases h),hK _ ?_⟩; clear hK K)
 refine zav (u) rfl (fun w' hw'=>by have q0:=hw'.cell x1; go_simp) ?_;refine zai fun K h=>?_; go_simp; refine h _ ?_; clear h K;refine za9 _ rfl (fun w' hw' hk=>?_) (fun v8=>?_)
 ·have hw2:=e0.trans hw';have hle:=hw'.size;clear hk;unfold zaL;go_simp
  exact ⟨Ext.refl _,(zmU u s.undo w' (h2.ext hw2) (by have:=HS.o.2.1; omega)).mono fun _ _ _ h=>zbe h hle⟩
 refine zai fun K h=>?_; go_simp; refine h _ ?_; clear h K;(refine zap (fun K hK=>?_); go_simp; first | refine hK _ ?_ | refine ⟨(fun h=>by cases h),hK _ ?_⟩; clear hK K)
 refine zav (a) rfl (fun w' hw'=>by have q0:=hw'.cell x2; go_simp) ?_;refine zai fun K h=>?_; go_simp; refine h _ ?_; clear h K;refine za9 _ rfl (fun w' hw' hk=>?_) (fun v11=>?_)
 ·have hw2:=e0.trans hw';have hle:=hw'.size;clear hk;unfold zaL;go_simp
  exact ⟨Ext.refl _,(zo5 a s.answers w' (h3.ext zgf hw2) (by have:=HS.o.2.2.1; omega)).mono fun _ _ _ h=>zbe h hle⟩
 refine zai fun K h=>?_; go_simp; refine h _ ?_; clear h K;(refine zap (fun K hK=>?_); go_simp; first | refine hK _ ?_ | refine ⟨(fun h=>by cases h),hK _ ?_⟩; clear hK K)
 refine zav (p) rfl (fun w' hw'=>by have q0:=hw'.cell x3; go_simp) ?_;refine zai fun K h=>?_; go_simp; refine h _ ?_; clear h K;refine za9 _ rfl (fun w' hw' hk=>?_) (fun v14=>?_)
 ·have hw2:=e0.trans hw';have hle:=hw'.size;clear hk;unfold zaL;go_simp
  exact ⟨Ext.refl _,(zp8 p s.past w' (h4.ext ziL hw2) (by have:=HS.o.2.2.2; omega)).mono fun _ _ _ h=>zbe h hle⟩
 refine zai fun K h=>?_; go_simp; refine h _ ?_; clear h K;refine zaM ?_;intro w1 e1 hX;have o0:w1.ownsRow w0.heap.size 3 1 v5 s.cells.length (s.cells.map I):=hX 5;have o1:w1.ownsRow w0.heap.size 91 2 v8 s.undo.length (zaA s.undo):=hX 8;have o2:w1.ownsRow w0.heap.size 99 4 v11 s.answers.length (zbv s.answers):=hX 11;have o3:w1.ownsRow w0.heap.size 36 6 v14 s.past.length (zbA s.past):=hX 14;clear hX x0 x1 x2 x3;have ho:OwnSt w0.heap.size w1 v5 v8 v11 v14 s:=⟨o0,o1,o2,o3⟩;obtain ⟨ka,kc,hk0⟩:=za0 o0;obtain ⟨la,lc,hk1⟩:=za0 o1;obtain ⟨ma,mc,hk2⟩:=za0 o2;obtain ⟨na,nc,hk3⟩:=za0 o3;subst hk0 hk1 hk2 hk3;clear o0 o1 o2 o3;have HO:=zhd ho;clear ho;obtain ⟨-,b1⟩:=HB.o w1 e1;obtain ⟨y0,y1,y2,y3,f0,f1,f2,f3⟩:=box4 b1;go_wp2_with fail
 clear y0 y1 y2 y3 f0 f1 f2 f3;have b2:=set4 b1 (.slice ka s.cells.length kc) (.slice la s.undo.length lc) (.slice ma s.answers.length mc) (.slice na s.past.length nc);obtain ⟨q0,q1,q2,q3,-⟩:=box4 b2;have m2:=zb1 (e0.trans e1) (b:=w.heap.size+1) (by omega) (.slice ka s.cells.length kc) (.slice la s.undo.length lc) (.slice ma s.answers.length mc) (.slice na s.past.length nc);have hlt:w.heap.size+1 < w0.heap.size:=by rw [HSZ.o]; omega
 refine bodyPost_ret (by simp [results,Tryz.results49,go_sem,q0,q1,q2,q3]; rfl) rfl ?_;exact ⟨_,rfl,m2,_,_,_,_,rfl,((((HO.o.set hlt _ _).set hlt _ _).set hlt _ _).set hlt _ _).low (by rw [HSZ.o]; exact Nat.le_refl _)⟩

open Go.RowKit Go.Mk

theorem Tryz.infoBs:(Tryz.prog.info? 78).map (fun i=>(i.zero,i.size,i.bytes))=some (some (.slice none 0 0),1,24):=by kernel_rfl

theorem zcZ {w:World} {base e size n:Nat} {v:Value} {xs:List Value} (h:w.ownsRow base e size v n xs):∃ ao cap,v=.slice ao n cap:=zao (Row.of_owns h)

theorem zgW (gen:Int) (bl:List (List UInt8)) (busy:Bool) (nc nt nk na no nn:Int) (pl:List (Int×Int)) (se sn:Int) (box plan bv:Value) (b:List UInt8) (w:World) (A:Nat->Prop) (hb:Rd A (fun w=>zar 1 zb0 w box bl) w) (hp:Rd A (fun w=>zax w plan pl) w) (hv:Rd A (fun w=>zbb w bv b) w) (hr:bl.length<=1000) :
  zaQ Tryz.prog 29 #[.agg #[I gen,box,.bool busy,I nc,I nt,I nk,I na,I no,I nn,plan,I se,I sn],bv] w A (fun r w'=>zgP zhg (zcl ⟨gen,bl,busy,⟨nc,nt,⟨nk,na,no,nn⟩⟩,pl,⟨se,sn⟩⟩ b).1 (zcl ⟨gen,bl,busy,⟨nc,nt,⟨nk,na,no,nn⟩⟩,pl,⟨se,sn⟩⟩ b).2 r w'):=by
 unfold zaQ;obtain ⟨ba,bc,rfl⟩:=zaf hb.o;obtain ⟨pa,pc,rfl⟩:=zao hp.o;obtain ⟨va,vc,rfl⟩:=zao hv.o;have HB:=zhd hb;have HP:=zhd hp;have HV:=zhd hv;clear hb hp hv;have e0:Ext w ((w.alloc (.cells #[I gen,(.slice ba bl.length bc),.bool busy,I nc,I nt,I nk,I na,I no,I nn,(.slice pa pl.length pc),I se,I sn] 41)).alloc (.cells zS 41)):=((Ext.refl w).alloc _).alloc _;by_cases h3:3<=bl.length
 case pos =>
  have hX:zcl ⟨gen,bl,busy,⟨nc,nt,⟨nk,na,no,nn⟩⟩,pl,⟨se,sn⟩⟩ b=(⟨gen,bl,busy,⟨nc,nt,⟨nk,na,no,nn⟩⟩,pl,⟨se,sn⟩⟩,9):=if_pos h3;rw [hX];have hl1:(3:Int)<=(bl.length:Int):=by omega
  have hl2:¬ ((bl.length:Int) < 3):=by omega
  clear hX;go_enter Tryz.func29,Tryz.ntmps29
  go_wp2
  refine bodyPost_ret (by simp [results,Tryz.results29,go_sem]; rfl) rfl ?_;exact ⟨_,rfl,((Ext.refl w).alloc _).alloc _,((zbL (zdt (v:=⟨gen,bl,busy,⟨nc,nt,⟨nk,na,no,nn⟩⟩,pl,⟨se,sn⟩⟩) HB.o HP.o)).ext (((Ext.refl w).alloc _).alloc _)).widen (fun _ _ h=>.inl h)⟩
 have hX:zcl ⟨gen,bl,busy,⟨nc,nt,⟨nk,na,no,nn⟩⟩,pl,⟨se,sn⟩⟩ b=(⟨gen,bl++[b],busy,⟨nc,nt,⟨nk,na,no,nn⟩⟩,pl,⟨se,sn⟩⟩,0):=if_neg h3;rw [hX];clear hX;have hl1:¬ ((3:Int)<=(bl.length:Int)):=by omega
 have hl2:(bl.length:Int) < 3:=by omega
 have HR:=zhd hr;clear hr h3;obtain ⟨i0,hi,hz0,hz1,hz2⟩:=info_parts Tryz.infoBs;have HI:=zhd hi;clear hi;obtain ⟨css,hcs,hrow⟩:=zl0 (by decide) HB.o;have HCS:=zhd hcs;have HROW:=zhd hrow;clear hcs hrow;have HBL:=zhd (fun wx (h:Ext ((w.alloc (.cells #[I gen,(.slice ba bl.length bc),.bool busy,I nc,I nt,I nk,I na,I no,I nn,(.slice pa pl.length pc),I se,I sn] 41)).alloc (.cells zS 41)) wx)=>And.intro (zcT h) (zcm h));have hsz:((w.alloc (.cells #[I gen,(.slice ba bl.length bc),.bool busy,I nc,I nt,I nk,I na,I no,I nn,(.slice pa pl.length pc),I se,I sn] 41)).alloc (.cells zS 41)).heap.size=w.heap.size+2:=by simp
 have HSZ:=zhd hsz;clear hsz;obtain ⟨B,hB⟩:=zdh A w.heap.size 2;have HK:=zhd hB;clear hB;have HONES:=zhd (HCS.o.o.ones zqT);go_enter Tryz.func29,Tryz.ntmps29
 go_wp2_with (at_builtin; refine zbw ?_)
 unfold Hid;generalize hw0:(w.alloc (.cells #[I gen,(.slice ba bl.length bc),.bool busy,I nc,I nt,I nk,I na,I no,I nn,(.slice pa pl.length pc),I se,I sn] 41)).alloc (.cells zS 41)=w0 at *;clear hw0;have hz:=HSZ.o;have hem:=World.ownsRow_lit (base:=w0.heap.size) (e:=78) (size:=1) w0 #[] 0 (Nat.le_refl _) (by decide) rfl;rw [hz] at hem;refine zaz _ rfl (.tmp 11) (.tmp 13) 32 rfl (w.heap.size+2) 78 i0 (.slice none 0 0) 1 24 znc HI.o hz0 hz1 hz2 rfl (by decide) (.slice (some ⟨w.heap.size+2,0,none⟩) 0 0) 0 [] rfl hem _ rfl bl.length css.flatten (HROW.o.ext (e0.alloc _)) HONES.o (by have:=HR.o; omega) (by decide) (by simp; omega) ?_;intro v1 w1 ho1 hg1;simp only [Nat.zero_add,List.nil_append] at ho1;have e1:Ext w0 w1:=((Ext.refl w0).alloc (.cells #[] 78)).grown hg1 (fun k hk=>by (have h5:w.heap.size+2=k:=by simpa [Value.ownBlock] using hk); omega);clear hem hg1;go_wp2_with (at_builtin; refine zbw ?_)
 unfold Hid;have hone:Row (w1.alloc (.cells #[.slice va b.length vc] 78)) 1 (.slice (some ⟨w1.heap.size,0,none⟩) 1 1) 1 [.slice va b.length vc]:=Row.of_owns (World.ownsRow_lit (base:=0) (e:=78) (size:=1) w1 #[.slice va b.length vc] 1 (Nat.zero_le _) (by decide) rfl);have hs1:=e1.size;refine zaz _ rfl (.tmp 14) (.tmp 16) 32 rfl (w.heap.size+2) 78 i0 (.slice none 0 0) 1 24 znc HI.o hz0 hz1 hz2 rfl (by decide) v1 bl.length css.flatten rfl (zak ho1 ((Ext.refl w1).alloc _)) _ rfl 1 _ hone (fun u hu=>by simp at hu; rw [hu]; rfl) (by have:=HR.o; omega) (by decide) (by simp; omega) ?_;intro v2 w2 ho2 hg2;have e2:Ext w0 w2:=(e1.alloc (.cells #[.slice va b.length vc] 78)).grown hg2 (fun k hk=>by have:=(ho1.lt k hk).1; omega);clear hone hg2 ho1 hs1;have ho2:w2.ownsRow (w.heap.size+2) 78 1 v2 (bl.length+1) (css++[[Value.slice va b.length vc]]).flatten:=by simpa using ho2
 have k1:Rd B (fun w=>zar 1 zb0 w v2 (bl++[b])) w2:=by
  refine zfm (fun k h _=>HK.o.2.1 k h) (Rd.snoc ((HCS.o.widen HK.o.1).ext (e0.trans e2)) ?_ rfl) ho2 (by decide);exact ((HV.o.widen HK.o.1).ext (e0.trans e2)).imp fun w h=>⟨_,rfl,h⟩
 obtain ⟨qa,qc,hqs⟩:=zcZ ho2;subst hqs;have K1:=zhd k1;clear ho2 k1;obtain ⟨b0,b1⟩:=HBL.o w2 e2;have x0:=zdV b0;have f0:=zfe b0;have y0:=zdV b1;have g0:=zfe b1;go_wp2
 clear x0 f0 y0 g0;have n0:¬ B w.heap.size:=HK.o.2.2.1 _ (Nat.le_refl _) (by omega);have n1:¬ B (w.heap.size+1):=HK.o.2.2.1 _ (by omega) (by omega);have b2:=zns (zcB (i:=1) (x:=(.slice qa (bl.length+1) qc)) b1 (Nat.succ_ne_self w.heap.size)) [I gen,(.slice qa (bl.length+1) qc),.bool busy,I nc,I nt,I nk,I na,I no,I nn,(.slice pa pl.length pc),I se,I sn] rfl;have ew:=Ext.put (b:=w.heap.size+1) (by omega) [I gen,(.slice qa (bl.length+1) qc),.bool busy,I nc,I nt,I nk,I na,I no,I nn,(.slice pa pl.length pc),I se,I sn] ((e0.trans e2).setCell (p:=⟨w.heap.size,1,none⟩) (Nat.le_refl _) (.slice qa (bl.length+1) qc)) 0;have r1:=Rd.put n1 [I gen,(.slice qa (bl.length+1) qc),.bool busy,I nc,I nt,I nk,I na,I no,I nn,(.slice pa pl.length pc),I se,I sn] (K1.o.set n0 1 (.slice qa (bl.length+1) qc)) 0;have rHP:=Rd.put n1 [I gen,(.slice qa (bl.length+1) qc),.bool busy,I nc,I nt,I nk,I na,I no,I nn,(.slice pa pl.length pc),I se,I sn] (((HP.o.widen HK.o.1).ext (e0.trans e2)).set n0 1 (.slice qa (bl.length+1) qc)) 0;generalize hwz:((((((((((((w2.setCell ⟨w.heap.size,1,none⟩ (.slice qa (bl.length+1) qc)).setCell ⟨w.heap.size+1,0,none⟩ (I gen)).setCell ⟨w.heap.size+1,1,none⟩ (.slice qa (bl.length+1) qc)).setCell ⟨w.heap.size+1,2,none⟩ (.bool busy)).setCell ⟨w.heap.size+1,3,none⟩ (I nc)).setCell ⟨w.heap.size+1,4,none⟩ (I nt)).setCell ⟨w.heap.size+1,5,none⟩ (I nk)).setCell ⟨w.heap.size+1,6,none⟩ (I na)).setCell ⟨w.heap.size+1,7,none⟩ (I no)).setCell ⟨w.heap.size+1,8,none⟩ (I nn)).setCell ⟨w.heap.size+1,9,none⟩ (.slice pa pl.length pc)).setCell ⟨w.heap.size+1,10,none⟩ (I se)).setCell ⟨w.heap.size+1,11,none⟩ (I sn)=wz;replace hwz:zfs (w2.setCell ⟨w.heap.size,1,none⟩ (.slice qa (bl.length+1) qc)) (w.heap.size+1) 0 [I gen,(.slice qa (bl.length+1) qc),.bool busy,I nc,I nt,I nk,I na,I no,I nn,(.slice pa pl.length pc),I se,I sn]=wz:=hwz;rw [hwz] at b2 ew r1 rHP;have q0:=zdV b2;clear hwz;refine bodyPost_ret (by simp [results,Tryz.results29,go_sem,q0]; rfl) rfl ?_;exact ⟨_,rfl,ew,Rd.widen (A:=B) (zbL (zdt (v:=⟨gen,bl++[b],busy,⟨nc,nt,⟨nk,na,no,nn⟩⟩,pl,⟨se,sn⟩⟩) r1 rHP)) (fun k _ h=>HK.o.2.2.2 k h)⟩

theorem zgV (cl:List Cl) (at_:Int) (sent:Bool) (gen:Int) (bl:List (List UInt8)) (gl:List Rp) (calls box got bv:Value) (b:List UInt8) (w:World) (A:Nat->Prop) (hc:Rd A (fun w=>zar 4 zdk w calls cl) w) (hb:Rd A (fun w=>zar 1 zb0 w box bl) w) (hg:Rd A (fun w=>zar 2 zdY w got gl) w) (hv:Rd A (fun w=>zbb w bv b) w) (hr:bl.length<=1000) :
  zaQ Tryz.prog 32 #[.agg #[calls,I at_,.bool sent,I gen,box,got],bv] w A (fun r w'=>Agg zcx (zcu ⟨cl,at_,sent,gen,bl,gl⟩ b) r w'):=by
 unfold zaQ;obtain ⟨ba,bc,rfl⟩:=zaf hb.o;obtain ⟨ca,cc,rfl⟩:=zaf hc.o;obtain ⟨ga,gc,rfl⟩:=zaf hg.o;obtain ⟨va,vc,rfl⟩:=zao hv.o;have HC:=zhd hc;have HB:=zhd hb;have HG:=zhd hg;have HV:=zhd hv;clear hc hb hg hv;have e0:Ext w ((w.alloc (.cells #[(.slice ca cl.length cc),I at_,.bool sent,I gen,(.slice ba bl.length bc),(.slice ga gl.length gc)] 63)).alloc (.cells zC 63)):=((Ext.refl w).alloc _).alloc _;by_cases h3:3<=bl.length
 case pos =>
  have hX:zcu ⟨cl,at_,sent,gen,bl,gl⟩ b=⟨cl,at_,sent,gen,bl,gl⟩:=if_neg (by show ¬ bl.length < 3; omega);rw [hX];have hl1:(3:Int)<=(bl.length:Int):=by omega
  have hl2:¬ ((bl.length:Int) < 3):=by omega
  clear hX;go_enter Tryz.func32,Tryz.ntmps32
  go_wp2
  refine bodyPost_ret (by simp [results,Tryz.results32,go_sem]; rfl) rfl ?_;exact ⟨_,rfl,((Ext.refl w).alloc _).alloc _,((zbT (zcN (c:=⟨cl,at_,sent,gen,bl,gl⟩) HC.o HB.o HG.o)).ext (((Ext.refl w).alloc _).alloc _)).widen (fun _ _ h=>.inl h)⟩
 have hX:zcu ⟨cl,at_,sent,gen,bl,gl⟩ b=⟨cl,at_,sent,gen,bl++[b],gl⟩:=if_pos (by show bl.length < 3; omega);rw [hX];clear hX;have hl1:¬ ((3:Int)<=(bl.length:Int)):=by omega
 have hl2:(bl.length:Int) < 3:=by omega
 have HR:=zhd hr;clear hr h3;obtain ⟨i0,hi,hz0,hz1,hz2⟩:=info_parts Tryz.infoBs;have HI:=zhd hi;clear hi;obtain ⟨css,hcs,hrow⟩:=zl0 (by decide) HB.o;have HCS:=zhd hcs;have HROW:=zhd hrow;clear hcs hrow;have HBL:=zhd (fun wx (h:Ext ((w.alloc (.cells #[(.slice ca cl.length cc),I at_,.bool sent,I gen,(.slice ba bl.length bc),(.slice ga gl.length gc)] 63)).alloc (.cells zC 63)) wx)=>And.intro (zcT h) (zcm h));have hsz:((w.alloc (.cells #[(.slice ca cl.length cc),I at_,.bool sent,I gen,(.slice ba bl.length bc),(.slice ga gl.length gc)] 63)).alloc (.cells zC 63)).heap.size=w.heap.size+2:=by simp
 have HSZ:=zhd hsz;clear hsz;obtain ⟨B,hB⟩:=zdh A w.heap.size 2;have HK:=zhd hB;clear hB;have HONES:=zhd (HCS.o.o.ones zqT);go_enter Tryz.func32,Tryz.ntmps32
 go_wp2_with (at_builtin; refine zbw ?_)
 unfold Hid;generalize hw0:(w.alloc (.cells #[(.slice ca cl.length cc),I at_,.bool sent,I gen,(.slice ba bl.length bc),(.slice ga gl.length gc)] 63)).alloc (.cells zC 63)=w0 at *;clear hw0;have hz:=HSZ.o;have hem:=World.ownsRow_lit (base:=w0.heap.size) (e:=78) (size:=1) w0 #[] 0 (Nat.le_refl _) (by decide) rfl;rw [hz] at hem;refine zaz _ rfl (.tmp 9) (.tmp 11) 32 rfl (w.heap.size+2) 78 i0 (.slice none 0 0) 1 24 znc HI.o hz0 hz1 hz2 rfl (by decide) (.slice (some ⟨w.heap.size+2,0,none⟩) 0 0) 0 [] rfl hem _ rfl bl.length css.flatten (HROW.o.ext (e0.alloc _)) HONES.o (by have:=HR.o; omega) (by decide) (by simp; omega) ?_;intro v1 w1 ho1 hg1;simp only [Nat.zero_add,List.nil_append] at ho1;have e1:Ext w0 w1:=((Ext.refl w0).alloc (.cells #[] 78)).grown hg1 (fun k hk=>by (have h5:w.heap.size+2=k:=by simpa [Value.ownBlock] using hk); omega);clear hem hg1;go_wp2_with (at_builtin; refine zbw ?_)
 unfold Hid;have hone:Row (w1.alloc (.cells #[.slice va b.length vc] 78)) 1 (.slice (some ⟨w1.heap.size,0,none⟩) 1 1) 1 [.slice va b.length vc]:=Row.of_owns (World.ownsRow_lit (base:=0) (e:=78) (size:=1) w1 #[.slice va b.length vc] 1 (Nat.zero_le _) (by decide) rfl);have hs1:=e1.size;refine zaz _ rfl (.tmp 12) (.tmp 14) 32 rfl (w.heap.size+2) 78 i0 (.slice none 0 0) 1 24 znc HI.o hz0 hz1 hz2 rfl (by decide) v1 bl.length css.flatten rfl (zak ho1 ((Ext.refl w1).alloc _)) _ rfl 1 _ hone (fun u hu=>by simp at hu; rw [hu]; rfl) (by have:=HR.o; omega) (by decide) (by simp; omega) ?_;intro v2 w2 ho2 hg2;have e2:Ext w0 w2:=(e1.alloc (.cells #[.slice va b.length vc] 78)).grown hg2 (fun k hk=>by have:=(ho1.lt k hk).1; omega);clear hone hg2 ho1 hs1;have ho2:w2.ownsRow (w.heap.size+2) 78 1 v2 (bl.length+1) (css++[[Value.slice va b.length vc]]).flatten:=by simpa using ho2
 have k1:Rd B (fun w=>zar 1 zb0 w v2 (bl++[b])) w2:=by
  refine zfm (fun k h _=>HK.o.2.1 k h) (Rd.snoc ((HCS.o.widen HK.o.1).ext (e0.trans e2)) ?_ rfl) ho2 (by decide);exact ((HV.o.widen HK.o.1).ext (e0.trans e2)).imp fun w h=>⟨_,rfl,h⟩
 obtain ⟨qa,qc,hqs⟩:=zcZ ho2;subst hqs;have K1:=zhd k1;clear ho2 k1;obtain ⟨b0,b1⟩:=HBL.o w2 e2;have x0:=zdV b0;have f0:=zfe b0;have y0:=zdV b1;have g0:=zfe b1;go_wp2
 clear x0 f0 y0 g0;have n0:¬ B w.heap.size:=HK.o.2.2.1 _ (Nat.le_refl _) (by omega);have n1:¬ B (w.heap.size+1):=HK.o.2.2.1 _ (by omega) (by omega);have b2:=zns (zcB (i:=4) (x:=(.slice qa (bl.length+1) qc)) b1 (Nat.succ_ne_self w.heap.size)) [(.slice ca cl.length cc),I at_,.bool sent,I gen,(.slice qa (bl.length+1) qc),(.slice ga gl.length gc)] rfl;have ew:=Ext.put (b:=w.heap.size+1) (by omega) [(.slice ca cl.length cc),I at_,.bool sent,I gen,(.slice qa (bl.length+1) qc),(.slice ga gl.length gc)] ((e0.trans e2).setCell (p:=⟨w.heap.size,4,none⟩) (Nat.le_refl _) (.slice qa (bl.length+1) qc)) 0;have r1:=Rd.put n1 [(.slice ca cl.length cc),I at_,.bool sent,I gen,(.slice qa (bl.length+1) qc),(.slice ga gl.length gc)] (K1.o.set n0 4 (.slice qa (bl.length+1) qc)) 0;have rHC:=Rd.put n1 [(.slice ca cl.length cc),I at_,.bool sent,I gen,(.slice qa (bl.length+1) qc),(.slice ga gl.length gc)] (((HC.o.widen HK.o.1).ext (e0.trans e2)).set n0 4 (.slice qa (bl.length+1) qc)) 0;have rHG:=Rd.put n1 [(.slice ca cl.length cc),I at_,.bool sent,I gen,(.slice qa (bl.length+1) qc),(.slice ga gl.length gc)] (((HG.o.widen HK.o.1).ext (e0.trans e2)).set n0 4 (.slice qa (bl.length+1) qc)) 0;generalize hwz:((((((w2.setCell ⟨w.heap.size,4,none⟩ (.slice qa (bl.length+1) qc)).setCell ⟨w.heap.size+1,0,none⟩ (.slice ca cl.length cc)).setCell ⟨w.heap.size+1,1,none⟩ (I at_)).setCell ⟨w.heap.size+1,2,none⟩ (.bool sent)).setCell ⟨w.heap.size+1,3,none⟩ (I gen)).setCell ⟨w.heap.size+1,4,none⟩ (.slice qa (bl.length+1) qc)).setCell ⟨w.heap.size+1,5,none⟩ (.slice ga gl.length gc)=wz;replace hwz:zfs (w2.setCell ⟨w.heap.size,4,none⟩ (.slice qa (bl.length+1) qc)) (w.heap.size+1) 0 [(.slice ca cl.length cc),I at_,.bool sent,I gen,(.slice qa (bl.length+1) qc),(.slice ga gl.length gc)]=wz:=hwz;rw [hwz] at b2 ew r1 rHC rHG;have q0:=zdV b2;clear hwz;refine bodyPost_ret (by simp [results,Tryz.results32,go_sem,q0]; rfl) rfl ?_;exact ⟨_,rfl,ew,Rd.widen (A:=B) (zbT (zcN (c:=⟨cl,at_,sent,gen,bl++[b],gl⟩) rHC r1 rHG)) (fun k _ h=>HK.o.2.2.2 k h)⟩

end Go.Proofs.YtdmipnnfoolelaeGreat

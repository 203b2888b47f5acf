/- Texts of the proof, merged: R6 R7 D4 D5. -/
import Derived.Test.YtikbhmnjlmbeeaeGreatKSA
import Derived.Test.YtikbhmnjlmbeeaeGreatKST
import Derived.Test.YtikbhmnjlmbeeaeGreatKSJ
import Derived.Test.YtikbhmnjlmbeeaeGreatKSD
set_option maxHeartbeats 2000000
set_option maxRecDepth 100000

namespace Go.Proofs.YtikbhmnjlmbeeaeGreat
open Go.RowKit Go.Mk

theorem znO (v : Value) (l : List (Int × Int)) (a o n : Int) (w : World) (hv : zay w v l) (hl : Okw l) (ha : at1 l a < l.length) :
  Calls Tryz.prog 35 #[v,.agg #[I 6,I a,I o,I n]] w fun e w'=>zfX w v l ⟨6,a,o,n⟩ e w' /\ Ext w w':=by
 have hmf:=zdu;have hl5:=hl.len;obtain ⟨ao,cap,rfl,g1,g2,g3⟩:=hv.form;unfold maxLen at g2;have H3 : Hid _:=g3;clear g3;go_enter Tryz.func35,Tryz.ntmps35
 go_wp2_with fail
 refine Calls.exts (zed _ l a _ (hv.ext ((((Ext.refl w).alloc _).alloc _).alloc _))) (fun w1 e1=>?_);obtain ⟨s0,q0,q1,q2,q3,x0,x1,hbx,hw1⟩:=zmj w1 e1;obtain ⟨_,_,f0,f1⟩:=zaN hbx (Ext.refl w1);have hv1:=hv.ext hw1;have hbs : w.heap.size + 1 + 1 < w1.heap.size:=(Array.getElem?_eq_some_iff.1 hbx).1;have hz:=zfp ha;have hz2:=zeH ha;rw [hz,hz2];clear hz hz2;go_wp2_with fail
 refine Calls.exts (zed _ l o w1 hv1) (fun w2 e2=>?_);replace s0:=e2.cell s0;replace q0:=e2.cell q0;replace q1:=e2.cell q1;replace q2:=e2.cell q2;replace q3:=e2.cell q3;have hbx2 : w2.heap[w.heap.size + 1 + 1]? = some (.cells #[I 0,I 0] 39):=by rw [e2.block _ hbs]; exact hbx
 have hw2:=hw1.trans e2;have hv2:=hv1.ext e2;have hbs2 : w.heap.size + 1 + 1 < w2.heap.size:=Nat.lt_of_lt_of_le hbs e2.size;clear x0 x1 f0 f1 hv1 hbx hw1 hbs;by_cases hb : at1 l o < l.length
 case neg =>
  rw [zhq hb,zgj hb];go_wp2_with fail
  refine Calls.exts (zeJ _ _ _ _ s0 (zdv s0)) (fun w3 e3=>?_);obtain ⟨x0,x1,f0,f1⟩:=zaN hbx2 e3;have m3:=hw2.trans e3;go_wp2
  try simp only [Exit.inBlock,Exit.then]
  refine bodyPost_ret (by simp [results,Tryz.results35,go_sem,x0,x1]; rfl) rfl ?_;exact ⟨zcF (r:=⟨6,0⟩) (by rw [zgn,if_neg (by simpa using ha),if_pos hb]) hv ((m3.setCell (by simp only []; omega) _).setCell (by simp only []; omega) _),(m3.setCell (by simp only []; omega) _).setCell (by simp only []; omega) _⟩
 rw [zfp hb,zeH hb];have hm:=(hl.at ha).2.2;have hm':=(hl.at hb).2.2;have HS1 : Hid (zkn l a (num l (at1 l o)) = zcb l a (num l (at1 l o))):=zf5 ha;have HS2 : Hid (zkn (zcb l a (num l (at1 l o))) o (num l (at1 l a)) = zcb (zcb l a (num l (at1 l o))) o (num l (at1 l a))):=zf5 (by rw [zoB,zbG]; exact hb)
 have HD : Hid (doR l ⟨6,a,o,n⟩ = (zcb (zcb l a (num l (at1 l o))) o (num l (at1 l a)),⟨0,num l (at1 l o)⟩)):=by
  unfold Hid;rw [zgn,if_neg (by simpa using ha),if_neg (by simpa using hb)]
 have hlp : (zcb l a (num l (at1 l o))).length <= 5:=by rw [zbG]; exact hl5
 clear hm hm';generalize zcb (zcb l a (num l (at1 l o))) o (num l (at1 l a)) = L2 at *;generalize zcb l a (num l (at1 l o)) = L1 at *;generalize num l (at1 l a) = m at *;generalize num l (at1 l o) = m' at *;go_wp2_with fail
 refine zap 12 [none,none,none,none,some (.inr fun r w'=>zay w' r L1),none,none,none,some (.inr fun r w'=>Has w2.heap.size w' r L2),none,none,none] (by kernel_rfl) (by kernel_rfl) ?_ ?_
 ·exact ⟨trivial,trivial,trivial,trivial,zez _,trivial,trivial,trivial,zfs _ _,trivial,trivial,trivial,trivial⟩
 refine zaF (.slice ao l.length cap) rfl (fun w' hw'=>by have:=hw'.cell s0; go_simp) ?_;(refine zau (fun K hK=>?_); go_simp; refine hK _ ?_; clear hK K)
 refine zaF (I a) rfl (fun w' hw'=>by have:=hw'.cell q1; go_simp) ?_;(refine zau (fun K hK=>?_); go_simp; refine hK _ ?_; clear hK K)
 refine za8 _ rfl (fun w' hw' _=>?_) (fun v157=>?_)
 ·have hg : za2 Tryz.prog 62 #[.slice ao l.length cap,I a,I m'] w' (fun r w''=>zay w'' r L1) :=
   za2.mono (zf3 _ l a m' w' (hv2.ext hw') (by omega)) (fun r w'' _ h=>by rw [HS1.o] at h; exact h.writes)
  unfold zaT;go_simp
  exact ⟨Ext.refl _,hg⟩
 (refine zau (fun K hK=>?_); go_simp; refine hK _ ?_; clear hK K)
 refine zaF (I o) rfl (fun w' hw'=>by have:=hw'.cell q2; go_simp) ?_;(refine zau (fun K hK=>?_); go_simp; refine hK _ ?_; clear hK K)
 refine za8 _ rfl (fun w' hw' hk=>?_) (fun v161=>?_)
 ·have h7 : zay w' v157 L1:=hk 157 (by decide)
  have hg : za2 Tryz.prog 62 #[v157,I o,I m] w' (fun r w''=>Has w2.heap.size w'' r L2) :=
   za2.mono (zf3 _ L1 o m w' h7 (by omega)) (fun r w'' _ h=>by rw [HS2.o] at h; exact h.low hw'.size)
  clear hk h7;unfold zaT;go_simp
  exact ⟨Ext.refl _,hg⟩
 iterate 3 (refine zau (fun K hK=>?_); go_simp; refine hK _ ?_; clear hK K)
 refine za4 ?_;intro w3 he3 hF;have hr2 : Has w2.heap.size w3 v161 L2:=hF 161;clear hF;obtain ⟨x0,x1,f0,f1⟩:=zaN hbx2 he3;have m3:=hw2.trans he3;go_wp2
 try simp only [Exit.inBlock,Exit.then]
 refine bodyPost_ret (by simp [results,Tryz.results35,go_sem,x0,x1]; rfl) rfl ?_;exact ⟨zfi (r:=⟨0,m'⟩) HD.o ((hr2.set hbs2 _ _).set hbs2 _ _) hw2.size,(m3.setCell (by simp only []; omega) _).setCell (by simp only []; omega) _⟩

open Go.RowKit Go.Mk

theorem zd7 (v : Value) (l : List (Int × Int)) (k a o n : Int) (w : World) (hv : zay w v l) (hl : Okw l) (hc : wrongCl ⟨k,a,o,n⟩ = 0) :
  Calls Tryz.prog 35 #[v,.agg #[I k,I a,I o,I n]] w fun e w'=>zfX w v l ⟨k,a,o,n⟩ e w' /\ Ext w w':=by
 obtain ⟨hk,hn⟩:=zer hc
 by_cases ha : at1 l a < l.length
 ·rcases hk with rfl | rfl | rfl | rfl | rfl | rfl
  ·exact zmE v l a o n w hv hl
  ·exact zpf v l a o n w hv hl ha
  ·exact zod v l a o n w hv hl ha
  ·exact zph v l a o n w hv hl ha (hn (.inr rfl))
  ·exact zjE v l a o n w hv hl
  ·exact znO v l a o n w hv hl ha
 ·rcases hk with rfl | rfl | rfl | rfl | rfl | rfl
  ·exact zmE v l a o n w hv hl
  ·exact zhs v l 2 a o n w hv hl (by simp) ha
  ·exact zhs v l 3 a o n w hv hl (by simp) ha
  ·exact zhs v l 4 a o n w hv hl (by simp) ha
  ·exact zjE v l a o n w hv hl
  ·exact zhs v l 6 a o n w hv hl (by simp) ha

def zqk (w : World) (v : Value) (l : List (Int × Int)) (c : Cl) (e : Ending) (w' : World) : Prop :=
 ∃ u,e = .returned (.tuple #[u,(zbm l c).2.val]) /\ zay w' u (zbm l c).1 /\ ∀ base,base <= w.heap.size -> Has base w v l -> Has base w' u (zbm l c).1
theorem zpw (v : Value) (l : List (Int × Int)) (k a o n : Int) (w : World) (hv : zay w v l) (hl : Okn l) (hc : wrongCl ⟨k,a,o,n⟩ = 0) :
  Calls Tryz.prog 35 #[v,.agg #[I k,I a,I o,I n]] w fun e w'=>zqk w v l ⟨k,a,o,n⟩ e w' /\ Ext w w' :=
 (zd7 v l k a o n w hv hl.w hc).mono fun e w' h=>by
  have q:=h
  unfold zfX at q
  rw [zpX hl] at q
  exact q

theorem zoq (v : Value) (l : List Rq) (w : World) (hv : zn1 w v l) (hl : ∀ r ∈ l,wrongCl r.call = 0) (hr : l.length * 48 <= 140737488355328) :
  Calls Tryz.prog 14 #[v] w fun e w'=>∃ r,e = .returned r /\ Ext w w' /\ ∃ x y,r = .tuple #[x,y] /\ zay w' x (allCl (l.map Rq.call)).1 /\ zay w' y (allCl (l.map Rq.call)).2:=by
 obtain ⟨i0,hi,hz0,hz1,hz2⟩:=info_parts Tryz.infoReply;obtain ⟨ao,cap,rfl,h1,h2,h3⟩:=hv.form;unfold maxLen at h2
 have HOK : Hid (∀ k,Okn (allCl ((l.map Rq.call).take k)).1 /\ (allCl ((l.map Rq.call).take k)).2.length = min k l.length):=fun k=>by
  have:=zoJ (cs:=l.map Rq.call) (fun c hc=>by obtain ⟨r,hr,rfl⟩:=List.mem_map.1 hc; exact hl r hr) k;simpa using this
 have H3 : Hid (∀ k r,l[k]? = some r -> ∃ b off,ao = some ⟨b,off,none⟩ /\ w.cell? ⟨b,off + k * 6,none⟩ = some (I r.client) /\ w.cell? ⟨b,off + k * 6 + 1,none⟩ = some (I r.token) /\ w.cell? ⟨b,off + k * 6 + 2,none⟩ = some (I r.call.kind) /\
   w.cell? ⟨b,off + k * 6 + 3,none⟩ = some (I r.call.name) /\ w.cell? ⟨b,off + k * 6 + 4,none⟩ = some (I r.call.other) /\ w.cell? ⟨b,off + k * 6 + 5,none⟩ = some (I r.call.n)):=h3
 clear h3 hv;go_enter Tryz.func14,Tryz.ntmps14
 go_wp2_with fail
 go_loopw [4,5,12] (fun nv sv i wr=>∃ k : Nat,k <= l.length /\ i = I k /\ wr.ownsRow w.heap.size 39 2 sv k (zaE (allCl ((l.map Rq.call).take k)).2) /\ Has w.heap.size wr nv (allCl ((l.map Rq.call).take k)).1 /\ Ext w wr) (fun _ _ i _=>l.length - (intOf i).toNat)
 case atStart=>exact ⟨0,by omega,rfl,World.ownsRow_nil _ _ _ _,Has.nil _ _,Ext.refl w⟩
 case round =>
  obtain ⟨k,hk,rfl,ho,hh,he⟩:=hrel;obtain ⟨okk,lenk⟩:=HOK.o k;by_cases hlt : k < l.length
  ·have hgk : l[k]? = some l[k]:=List.getElem?_eq_getElem hlt;obtain ⟨b,off,rfl,d0,d1,d2,d3,d4,d5⟩:=H3.o k _ hgk;replace d0:=he.cell d0;replace d1:=he.cell d1;replace d2:=he.cell d2;replace d3:=he.cell d3;replace d4:=he.cell d4;replace d5:=he.cell d5;have hwc : wrongCl l[k].call = 0:=hl _ (List.getElem_mem hlt);have HT : Hid (allCl ((l.map Rq.call).take (k + 1)) = ze2 (allCl ((l.map Rq.call).take k)) l[k].call):=zjd (by simp [hgk]);generalize l[k] = rq at *;obtain ⟨cl,tk,kd,nm,ot,nn⟩:=rq;simp only [] at d0 d1 d2 d3 d4 d5 hwc;generalize allCl ((l.map Rq.call).take k) = A at *;obtain ⟨A1,A2⟩:=A;simp only [] at ho hh okk lenk;have hlen2 : A2.length = k:=by omega
   go_wp2_with fail
   have e0 : Ext wr (wr.alloc (.cells #[I cl,I tk,I kd,I nm,I ot,I nn] 36)):=(Ext.refl wr).alloc _;refine (zpw u4 A1 kd nm ot nn _ (hh.writes.ext e0) okk hwc).mono ?_;rintro e w2 ⟨⟨u,rfl,hw2,hu⟩,e2⟩
   have hu2:=hu w.heap.size (Nat.le_trans he.size e0.size) (hh.ext e0);have ho2:=zal ho (e0.trans e2);have he2 : Ext w w2:=he.trans (e0.trans e2);clear hu hw2 d0 d1 d2 d3 d4 d5 hh ho;generalize hD : zbm A1 ⟨kd,nm,ot,nn⟩ = D at *;have HD : Hid (zbm A1 ⟨kd,nm,ot,nn⟩ = D):=hD;clear hD;obtain ⟨D1,D2,D3⟩:=D;simp only [] at hu2;clear e0 e2 he;go_wp2_with (at_builtin; refine zbD ?_)
   unfold Hid;refine zaz _ rfl (.tmp 24) (.tmp 26) 55 rfl w.heap.size 39 i0 (.agg #[.int .i64 0,.int .i64 0]) 2 16 zu55 hi hz0 hz1 hz2 rfl (by decide) u5 k (zaE A2) rfl ((ho2.alloc _).alloc _) _ rfl 1 [I D2,I D3] (zdE _ _ [(D2,D3)] _ 1 rfl rfl (by decide)) (zbB [(D2,D3)]) (by omega) (by decide) (by have:=he2.size; simp; omega) ?_;intro o' w3 ho3 hg3;have he3 : Ext w w3:=((he2.alloc _).alloc _).grown hg3 (fun j hj=>(ho2.lt j hj).1);have hh3 : Has w.heap.size w3 u D1:=(hu2.ext (((Ext.refl w2).alloc _).alloc _)).grown ((ho2.alloc _).alloc _) (by decide) hg3;clear hg3;go_wp2
   go_roundw
   case rel =>
    refine ⟨k + 1,by omega,by go_num,?_,?_,he3⟩
    ·rw [HT.o];simp only [ze2];rw [HD.o,zbo];exact ho3
    ·rw [HT.o];simp only [ze2];rw [HD.o];exact hh3
   case measure=>simp [intOf]; omega
  ·go_wp2
   go_ret2
   rw [List.take_of_length_le (by simp; omega)] at ho hh;exact ⟨_,rfl,he,_,_,rfl,hh.writes,zaG ho⟩

open Go.RowKit Go.Mk

theorem zlx {xs : List Int} (h : zcU xs = 0) : xs.length = 11 /\ 0 <= xs.getD 0 0 /\ xs.getD 0 0 <= 5:=by
 have hl:=zne h
 unfold zcU at h
 rw [if_neg (by simp [hl])] at h
 by_cases h0 : 0 <= xs.getD 0 0 /\ xs.getD 0 0 <= 5
 ·exact ⟨hl,h0⟩
 ·rw [if_pos h0] at h; cases h

theorem zmc (v : Value) (xs : List Int) (w : World) (hv : zbN w v xs) (hw : xs.length = 11 /\ 0 <= xs.getD 0 0 /\ xs.getD 0 0 <= 5) :
  Calls Tryz.prog 16 #[v] w fun e w'=>∃ r,e = .returned r /\ Ext w w' /\ Has w.heap.size w' r (zaO xs (xs.getD 0 0).toNat):=by
 obtain ⟨hl,x0,x5⟩:=id hw;obtain ⟨i0,hi,hz0,hz1,hz2⟩:=info_parts Tryz.infoWrite2
 have H3 : Hid (∀ k,k < 11 -> ∃ ao cap,v = .slice ao 11 cap /\ 11 <= cap /\ cap <= maxLen /\ ∃ b off,ao = some ⟨b,off,none⟩ /\ w.cell? ⟨b,off + k,none⟩ = some (I (xs.getD k 0))):=fun k hk=>by
  obtain ⟨ao,cap,h1,h2,h3,h4⟩:=hv.form;rw [hl] at h1 h2 h4;exact ⟨ao,cap,h1,h2,h3,h4 k hk⟩
 obtain ⟨ao,cap,rfl,hcap,hm,b,off,rfl,hc0⟩:=H3.o 0 (by omega)
 have HC : Hid (∀ k,k < 11 -> w.cell? ⟨b,off + k,none⟩ = some (I (xs.getD k 0))):=fun k hk=>by
  obtain ⟨ao,cap',h1,_,_,b',off',h2,h3⟩:=H3.o k hk;rw [h2] at h1;simp only [Value.slice.injEq,Option.some.injEq,Addr.mk.injEq,and_true] at h1;obtain ⟨⟨rfl,rfl⟩,_,rfl⟩:=h1;exact h3
 clear H3;unfold maxLen at hm;simp only [Nat.add_zero] at hc0;generalize hX : xs.getD 0 0 = x at *;clear hX hw hl hv;have HC0 : Hid (w.cell? ⟨b,off,none⟩ = some (I x)):=hc0;clear hc0;go_enter Tryz.func16,Tryz.ntmps16
 go_wp2_with fail
 go_loopw [3,4] (fun o i wr=>∃ k : Nat,(k : Int) <= x /\ i = I (1 + 2 * k) /\ wr.ownsRow w.heap.size 91 2 o k (zaE (zaO xs k)) /\ Ext w wr) (fun _ i _=>20 - (intOf i).toNat)
 case atStart=>exact ⟨0,by omega,rfl,World.ownsRow_nil _ _ _ _,Ext.refl w⟩
 case round =>
  obtain ⟨k,hk,rfl,ho,he⟩:=hrel;have c0:=he.cell HC0.o;by_cases hlt : (k : Int) < x
  ·have c1:=he.cell (HC.o (1 + 2 * k) (by omega));have c2:=he.cell (HC.o (1 + 2 * k + 1) (by omega));have HS : Hid (zaO xs (k + 1) = zaO xs k ++ [(xs.getD (1 + 2 * k) 0,xs.getD (1 + 2 * k + 1) 0)]):=zhm xs k;generalize xs.getD (1 + 2 * k) 0 = p at *;generalize xs.getD (1 + 2 * k + 1) 0 = q at *;have a1 : (0 : Int) <= 1 + 2 * (k : Int):=by omega
   have a2 : 1 + 2 * (k : Int) < 11:=by omega
   have a3 : (1 + 2 * (k : Int)).toNat = 1 + 2 * k:=by omega
   have a4 : (0 : Int) <= 1 + 2 * (k : Int) + 1:=by omega
   have a5 : 1 + 2 * (k : Int) + 1 < 11:=by omega
   have a6 : (1 + 2 * (k : Int) + 1).toNat = 1 + 2 * k + 1:=by omega
   have hwr : IntKind.i64.wrap (1 + 2 * (k : Int) + 1) = 1 + 2 * (k : Int) + 1:=by rw [IntKind.wrap_i64]; omega
   go_wp2_with fail
   refine zap 12 [none,none,none,none,none,none,none,none,none,none,none,some (.inr fun v w=>zay w v [(p,q)])] (by kernel_rfl) (by kernel_rfl) ?_ ?_
   ·exact ⟨trivial,trivial,trivial,trivial,trivial,trivial,trivial,trivial,trivial,trivial,trivial,zez _,trivial⟩
   iterate 4 (refine zau (fun K hK=>?_); go_simp; refine hK _ ?_; clear hK K)
   refine zaF (I p) rfl (fun w' hw'=>by have:=hw'.cell c1; go_simp) ?_;iterate 4 (refine zau (fun K hK=>?_); go_simp; refine hK _ ?_; clear hK K)
   refine zaF (I q) rfl (fun w' hw'=>by have:=hw'.cell c2; go_simp) ?_;(refine zau (fun K hK=>?_); go_simp; refine hK _ ?_; clear hK K)
   refine za8 _ rfl (fun w' hw' _=>?_) (fun v25=>?_)
   ·unfold zaT;go_simp
    exact ⟨(Ext.refl _).alloc _,zcE _ _ _ 1 rfl rfl (by decide)⟩
   refine za4 ?_;intro w2 he2 hF;have h25 : zay w2 v25 [(p,q)]:=hF 25;clear hF c1 c2 c0;refine zaz _ rfl (.tmp 14) (.tmp 25) 27 rfl w.heap.size 91 i0 _ 2 16 zu27 hi hz0 hz1 hz2 rfl (by decide) u3 k (zaE (zaO xs k)) rfl ?_ v25 rfl 1 _ h25 (zbB _) (by omega) (by decide) ?_ ?_
   ·exact zal ho he2
   ·exact Nat.le_trans he.size he2.size
   intro o' w3 ho3 hg3;have he4 : Ext w w3:=(he.trans he2).grown hg3 (fun j hj=>(ho.lt j hj).1);clear hg3 he2 h25;go_wp2
   go_roundw
   case rel =>
    refine ⟨k + 1,by omega,by go_num,?_,he4⟩;rw [HS.o,zbo];exact ho3
   case measure=>simp [intOf]; omega
  ·go_wp2
   go_ret
   refine ⟨_,rfl,he,?_⟩;rw [show x.toNat = k by omega];exact ⟨_,_,_,ho,fun _ h=>zaG h⟩

theorem zcD (v : Value) (xs : List Int) (w : World) (hv : zbN w v xs) (hw : xs.length = 11 /\ 0 <= xs.getD 0 0 /\ xs.getD 0 0 <= 5) :
  Calls Tryz.prog 16 #[v] w fun e w'=>∃ r,e = .returned r /\ Ext w w' /\ zay w' r (zaO xs (xs.getD 0 0).toNat) :=
 (zmc v xs w hv hw).mono fun _ _ ⟨r,h1,h2,h3⟩=>⟨r,h1,h2,h3.writes⟩
theorem znl (v : Value) (xs : List Int) (w : World) (hv : zbN w v xs) (hw : zcU xs = 0) :
  Calls Tryz.prog 16 #[v] w fun e w'=>∃ r,e = .returned r /\ Ext w w' /\ zay w' r (zaO xs (xs.getD 0 0).toNat):=zcD v xs w hv (zlx hw)

open Go.RowKit Go.Mk

def zeG (base : Nat) (l : List (Int × Int)) (c : Cl) (e : Ending) (w : World) : Prop:=∃ u,e = .returned (.tuple #[u,(zbm l c).2.val]) /\ Has base w u (zbp l c)

theorem znt (v : Value) (xs : List Int) (k a o n : Int) (w : World) (hv : zbN w v xs) (hx : ze1 xs) (hc : wrongCl ⟨k,a,o,n⟩ = 0) (he : (zbm (zaO xs (xs.getD 0 0).toNat) ⟨k,a,o,n⟩).2.err ≠ 0) :
  Calls Tryz.prog 59 #[v,.agg #[I k,I a,I o,I n]] w fun e w'=>zeG w.heap.size (zaO xs (xs.getD 0 0).toNat) ⟨k,a,o,n⟩ e w' /\ Ext w w':=by
 obtain ⟨_,_,_,hok⟩:=id hx;have hP : zbp (zaO xs (xs.getD 0 0).toNat) ⟨k,a,o,n⟩ = []:=if_pos he;generalize hL : zaO xs (xs.getD 0 0).toNat = l at *;have HL : Hid (zaO xs (xs.getD 0 0).toNat = l):=hL;have HP : Hid (zbp l ⟨k,a,o,n⟩ = []):=hP;rw [<- zkh] at he;clear hP hL
 have HC : Hid (∀ wx,Ext ((w.alloc (.cells #[I k,I a,I o,I n] 34)).alloc (.cells #[I 0,I 0] 39)) wx -> (wx.cell? ⟨w.heap.size,0,none⟩ = some (I k) /\ wx.cell? ⟨w.heap.size,1,none⟩ = some (I a) /\ wx.cell? ⟨w.heap.size,2,none⟩ = some (I o) /\ wx.cell? ⟨w.heap.size,3,none⟩ = some (I n)) /\
   wx.heap[w.heap.size + 1]? = some (.cells #[I 0,I 0] 39)):=fun wx hx=>by
  have p0 : ((w.alloc (.cells #[I k,I a,I o,I n] 34)).alloc (.cells #[I 0,I 0] 39)).heap[w.heap.size]? = some (.cells #[I k,I a,I o,I n] 34):=by
   rw [heap_alloc_old _ _ (by simp)]; exact heap_alloc_new _ _
  have p1 : ((w.alloc (.cells #[I k,I a,I o,I n] 34)).alloc (.cells #[I 0,I 0] 39)).heap[w.heap.size + 1]? = some (.cells #[I 0,I 0] 39):=by
   have:=heap_alloc_new (w.alloc (.cells #[I k,I a,I o,I n] 34)) (.cells #[I 0,I 0] 39)
   simpa using this
  refine ⟨⟨hx.cell (zaV p0 rfl),hx.cell (zaV p0 rfl),hx.cell (zaV p0 rfl),hx.cell (zaV p0 rfl)⟩,?_⟩
  rw [hx.block _ (by simp)]
  exact p1
 have e0 : Ext w ((w.alloc (.cells #[I k,I a,I o,I n] 34)).alloc (.cells #[I 0,I 0] 39)):=((Ext.refl w).alloc _).alloc _;go_enter Tryz.func59,Tryz.ntmps59
 go_wp2_with fail
 refine (zcD v xs _ (hv.ext e0) hx.c).mono ?_;rintro e w1 ⟨h1,rfl,e1,hw1⟩
 rw [HL.o] at hw1;obtain ⟨⟨d0,d1,d2,d3⟩,_⟩:=HC.o w1 e1;go_wp2_with fail
 refine (zd7 h1 l k a o n w1 hw1 hok hc).mono ?_;rintro e w2 ⟨⟨u,rfl,_,_⟩,e2⟩
 clear d0 d1 d2 d3;generalize hD : doR l ⟨k,a,o,n⟩ = D at *;have HD : Hid (doR l ⟨k,a,o,n⟩ = D):=hD;clear hD;obtain ⟨D1,D2,D3⟩:=D;simp only [] at he;have hb : (D2 != 0) = true:=by simpa using he
 clear he;obtain ⟨_,hbx⟩:=HC.o (w2.alloc (.cells #[I D2,I D3] 39)) (e1.trans (e2.trans ((Ext.refl w2).alloc _)));have m3:=e0.trans (e1.trans (e2.trans ((Ext.refl w2).alloc (.cells #[I D2,I D3] 39))));obtain ⟨x0,x1,f0,f1⟩:=zaN hbx (Ext.refl _);obtain ⟨_,hbx2⟩:=HC.o w2 (e1.trans e2);obtain ⟨y0,y1,g0,g1⟩:=zaN hbx2 (Ext.refl _);have hbs : w.heap.size + 1 < w2.heap.size:=(Array.getElem?_eq_some_iff.1 hbx2).1;go_wp2_with fail
 go_region
 have hm : Ext w w2:=e0.trans (e1.trans e2);have hend : Ext w (((w2.setCell ⟨w.heap.size + 1,0,none⟩ (I D2)).setCell ⟨w.heap.size + 1,1,none⟩ (I D3)).alloc (.cells #[I D2,I D3] 39)).drew:=(((hm.setCell (by simp only []; omega) _).setCell (by simp only []; omega) _).alloc _).drew;go_wp2
 try simp only [Exit.inBlock,Exit.then]
 refine bodyPost_ret (by simp [results,Tryz.results59,go_sem,y0,y1,hbs]; rfl) rfl ?_;refine ⟨⟨.slice none 0 0,?_,?_⟩,hend⟩
 ·rw [<- zkh,HD.o]
 ·rw [HP.o]; exact Has.nil _ _

end Go.Proofs.YtikbhmnjlmbeeaeGreat

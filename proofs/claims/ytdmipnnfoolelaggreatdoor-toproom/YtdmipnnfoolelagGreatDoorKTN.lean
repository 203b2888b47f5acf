/- zbb of the proof, merged: S4 W1 W2 W3 W4 S7 N1 V1 N2 N3. -/
import Derived.Test.YtdmipnnfoolelagGreatDoorKTM
import Derived.Test.YtdmipnnfoolelagGreatDoorKTD
import Derived.Test.YtdmipnnfoolelagGreatDoorKTA
import Derived.BigRegion
import Derived.Test.YtdmipnnfoolelagGreatDoorKTE
set_option maxHeartbeats 1000000
set_option maxRecDepth 100000

namespace Go.Proofs.YtdmipnnfoolelagGreatDoor
open Go.RowKit Go.Mk

/-! Answers, as they are put. -/

theorem zsL {l:List An} {a:An} (h:∀ x ∈ l,x.client≠a.client):zbW l a=l++[a]:=by
 induction l with
 | nil=>rfl
 | cons x l ih =>
  unfold zbW
  rw [if_neg (h x (by simp)),ih (fun y hy=>h y (by simp [hy]))]
  rfl
theorem zqK {l:List An} {x a:An} (h:∃ y ∈ l,y.client=a.client):zbW (l++[x]) a=zbW l a++[x]:=by
 induction l with
 | nil=>obtain ⟨y,hy,_⟩:=h; cases hy
 | cons y l ih =>
  show (if y.client=a.client then a::(l++[x]) else y::zbW (l++[x]) a)=(if y.client=a.client then a::l else y::zbW l a)++[x]
  by_cases hy:y.client=a.client
  ·rw [if_pos hy,if_pos hy]; rfl
  ·rw [if_neg hy,if_neg hy,ih]
   ·rfl
   ·obtain ⟨z,hz,e⟩:=h
    rcases List.mem_cons.1 hz with rfl | hz
    ·exact absurd e hy
    ·exact ⟨z,hz,e⟩
theorem ztj {l:List An} {a:An} (h:∃ y ∈ l,y.client=a.client):(zbW l a).length=l.length:=by
 induction l with
 | nil=>obtain ⟨y,hy,_⟩:=h; cases hy
 | cons y l ih =>
  show (if y.client=a.client then a::l else y::zbW l a).length=_
  by_cases hy:y.client=a.client
  ·rw [if_pos hy]; rfl
  ·rw [if_neg hy,List.length_cons,ih]
   ·rfl
   ·obtain ⟨z,hz,e⟩:=h
    rcases List.mem_cons.1 hz with rfl | hz
    ·exact absurd e hy
    ·exact ⟨z,hz,e⟩

def zbj (l:List An):List Value:=l.flatMap fun x=>[I x.client,I x.token,I x.reply.err,I x.reply.n]
theorem zgH (l:List An):(zbj l).length=l.length * 4:=by
 unfold zbj
 induction l with
 | nil=>rfl
 | cons p l ih=>simp [List.flatMap_cons,ih]; omega
theorem zkj (l m:List An):zbj (l++m)=zbj l++zbj m:=by simp [zbj]
theorem zi1 (l:List An):∀ u ∈ zbj l,u.oneCell'=true:=by
 intro u hu
 unfold zbj at hu
 rw [List.mem_flatMap] at hu
 obtain ⟨p,_,hp⟩:=hu
 simp at hp
 rcases hp with rfl | rfl | rfl | rfl <;> rfl
theorem zgo {base e n:Nat} {v:Value} {l:List An} {w:World} (h:w.ownsRow base e 4 v n (zbj l)):Rd (fun k=>base<=k) (fun w=>zaj 4 zgO w v l) w:=by
 have hl:l.length=n:=by have:=h.1; rw [zgH] at this; omega
 subst hl
 exact (zdy h).imp fun w h=>(zcc (f:=fun (x:An)=>[I x.client,I x.token,I x.reply.err,I x.reply.n]) (fun _=>rfl)).2 h

theorem Tryz.infoAnswer:(Tryz.prog.info? 118).map (fun i=>(i.zero,i.size,i.bytes))=some (some (.agg #[.int .i64 0,.int .i64 0,.int .i64 0,.int .i64 0]),4,32):=by kernel_rfl
theorem Tryz.infoRequest:(Tryz.prog.info? 35).map (fun i=>(i.zero,i.size,i.bytes))=some (some (.agg #[.int .i64 0,.int .i64 0,.int .i64 0,.int .i64 0,.int .i64 0,.int .i64 0]),6,48):=by kernel_rfl

def zm5 (l:List An) (a:An) (k:Nat) (d:Bool) (m:List An):Prop :=
 (d=false/\(∀ x ∈ l.take k,x.client≠a.client)/\m=l.take k)∨(d=true/\(∃ x ∈ l.take k,x.client=a.client)/\m=zbW (l.take k) a)
theorem zm5.len {l:List An} {a:An} {k:Nat} {d:Bool} {m:List An} (h:zm5 l a k d m) (hk:k<=l.length):m.length=k:=by
 rcases h with ⟨_,_,rfl⟩ | ⟨_,h,rfl⟩
 ·rw [List.length_take]; omega
 ·rw [ztj h,List.length_take]; omega
theorem zm5.after {l:List An} {a x:An} {k:Nat} {m:List An} (h:zm5 l a k true m) (hx:l[k]?=some x):zm5 l a (k+1) true (m++[x]):=by
 rcases h with ⟨h,_⟩ | ⟨_,h,rfl⟩
 ·cases h
 ·right
  rw [List.take_add_one,hx]
  obtain ⟨y,hy,e⟩:=h
  exact ⟨rfl,⟨y,by simp [hy],e⟩,(zqK ⟨y,hy,e⟩).symm⟩
theorem zm5.done {l:List An} {a:An} {m:List An} (h:zm5 l a l.length true m):m=zbW l a:=by
 rcases h with ⟨h,_⟩ | ⟨_,h,rfl⟩
 ·cases h
 ·rw [List.take_length]
theorem zm5.last {l:List An} {a:An} {m:List An} (h:zm5 l a l.length false m):m++[a]=zbW l a:=by
 rcases h with ⟨_,h,rfl⟩ | ⟨h,_⟩
 ·rw [List.take_length] at *
  exact (zsL h).symm
 ·cases h

theorem zqz {w:World} (e:TypeId) (y:An):Row (w.alloc (.cells #[I y.client,I y.token,I y.reply.err,I y.reply.n] e)) 4 (.slice (some ⟨w.heap.size,0,none⟩) 1 1) 1 (zbj [y]):=by
 have:=World.ownsRow_lit (base:=0) (e:=e) (size:=4) w #[I y.client,I y.token,I y.reply.err,I y.reply.n] 1 (Nat.zero_le _) (by decide) rfl
 exact Row.of_owns this
theorem zje (l:List Rq):∀ u ∈ zbM l,u.oneCell'=true:=by
 intro u hu
 unfold zbM at hu
 rw [List.mem_flatMap] at hu
 obtain ⟨p,_,hp⟩:=hu
 simp at hp
 rcases hp with rfl | rfl | rfl | rfl | rfl | rfl <;> rfl
theorem zkc (l m:List Rq):zbM (l++m)=zbM l++zbM m:=by simp [zbM]
theorem ziW {base e n:Nat} {v:Value} {l:List Rq} {w:World} (h:w.ownsRow base e 6 v n (zbM l)):Rd (fun k=>base<=k) (fun w=>zaj 6 zhJ w v l) w:=by
 have hl:l.length=n:=by have:=h.1; rw [zkp] at this; omega
 subst hl
 exact (zdy h).imp fun w h=>zg5.2 h

open Go.RowKit Go.Mk

theorem zd5 (i:Int) (w:World) (h0:0<=i) (h1:i<=4000000000000000000) :
  Calls Tryz.prog 29 #[I i] w fun e w'=>e=.returned (I (1+2 * i))/\w'=w:=by
 go_enter Tryz.func29,Tryz.ntmps29
 go_wp2
 go_ret
 exact ⟨rfl,rfl⟩

theorem zgd (i:Int) (w:World) (h0:0<=i) (h1:i<=4000000000000000000) :
  Calls Tryz.prog 30 #[I i] w fun e w'=>e=.returned (I (1+2 * i+1))/\w'=w:=by
 go_enter Tryz.func30,Tryz.ntmps30
 go_wp2_with fail
 refine Calls.same (zd5 _ _ (by omega) (by omega)) ?_;go_wp2
 go_ret
 exact ⟨rfl,rfl⟩

theorem ziJ (v:Value) (xs:List Int) (i:Int) (w:World) (hv:zc2 w v xs) :
  Calls Tryz.prog 56 #[v,I i] w fun e w'=>e=.returned (.bool (decide (0<=i/\i < (xs.length:Int))))/\w'=w:=by
 obtain ⟨ao,cap,rfl,h1,h2,h3⟩:=hv.form;unfold maxLen at h2;clear h3 hv;by_cases hi:0<=i
 ·go_enter Tryz.func56,Tryz.ntmps56
  go_wp2
  go_ret
  exact ⟨by simp [hi],rfl⟩
 ·go_enter Tryz.func56,Tryz.ntmps56
  go_wp2
  go_ret
  exact ⟨by simp; omega,rfl⟩

theorem zig (v:Value) (xs:List Int) (w:World) (hv:zc2 w v xs) :
  Calls Tryz.prog 28 #[v] w fun e w'=>e=.returned (I (zbH xs))/\w'=w:=by
 obtain ⟨ao,cap,rfl,h1,h2,h3⟩:=hv.form;unfold maxLen at h2;clear hv;by_cases hz:xs.length=0
 ·go_enter Tryz.func28,Tryz.ntmps28
  go_wp2
  go_ret
  exact ⟨by simp [zbH,hz],rfl⟩
 ·obtain ⟨b,off,rfl,hc⟩:=h3 0 (by omega);clear h3;simp only [Nat.add_zero] at hc;go_enter Tryz.func28,Tryz.ntmps28
  go_wp2
  all_goals
   go_ret
   refine ⟨zec ?_,rfl⟩
   unfold zbH
   rw [if_neg hz,List.getD_eq_getElem?_getD] <;> omega

theorem zki (v:Value) (xs:List Int) (n name:Int) (w:World) (hv:zc2 w v xs) (hn:n<=1000000000000000000) (hb:n<=0∨2 * n < (xs.length:Int)) :
  Calls Tryz.prog 161 #[v,I n,I name] w fun e w'=>e=.returned (I (findIn xs name n.toNat 0))/\w'=w:=by
 obtain ⟨ao,cap,rfl,h1,h2,h3⟩:=hv.form;unfold maxLen at h2;clear hv;go_enter Tryz.func161,Tryz.ntmps161
 go_wp2
 go_loop [9] (fun i=>∃ k:Nat,(k:Int)<=max n 0/\i=I k/\findIn xs name n.toNat 0=findIn xs name (n.toNat - k) k) (fun i=>n.toNat - (intOf i).toNat)
 case atStart=>exact ⟨0,by omega,rfl,rfl⟩
 case round =>
  obtain ⟨k,hk,rfl,hf⟩:=hrel;have HF:Hid (findIn xs name n.toNat 0=findIn xs name (n.toNat - k) k):=hf;clear hf;by_cases hlt:(k:Int) < n
  ·obtain ⟨b,off,rfl,hc⟩:=h3 (1+2 * k) (by omega);clear h3;go_wp2_with (go_at_call 29; refine Calls.same (zd5 _ _ (by omega) (by omega)) ?_)
   ·go_ret
    exact ⟨zec (by rw [HF.o,zow hlt (by rw [List.getD_eq_getElem?_getD]; assumption)]),rfl⟩
   ·go_round
    case rel=>exact ⟨k+1,by omega,by go_num,by rw [HF.o,znt hlt (by rw [List.getD_eq_getElem?_getD]; assumption)]⟩
    case measure=>simp [intOf]; omega
  ·go_wp2
   go_ret
   exact ⟨zec (by rw [HF.o,zoC (by omega)]),rfl⟩

theorem zrB (v:Value) (xs:List Int) (name:Int) (w:World) (hv:zc2 w v xs) (hl:xs.length<=1000000000000000000) :
  Calls Tryz.prog 151 #[v,I name] w fun e w'=>e=.returned (I (findIn xs name (zbH xs).toNat 0))/\w'=w:=by
 go_enter Tryz.func151,Tryz.ntmps151
 go_wp2_with fail
 refine Calls.same (zig v xs _ hv) ?_;have he:zbH xs<=1000000000000000000:=by unfold zbH; split <;> omega
 have hb:zbH xs<=0∨2 * zbH xs < (xs.length:Int):=by unfold zbH; split <;> omega
 go_wp2_with fail
 refine Calls.same (zki v xs (zbH xs) name _ hv he hb) ?_;go_wp2
 go_ret
 exact ⟨rfl,rfl⟩

open Go.RowKit Go.Mk

theorem zo6 (v:Value) (xs:List Int) (w:World) (hv:zc2 w v xs) (hr:xs.length * 8<=140737488355328) :
  Calls Tryz.prog 55 #[v] w fun e w'=>e=.returned (.slice (some ⟨w.heap.size,0,none⟩) xs.length xs.length)/\w'.ownsRow w.heap.size 3 1 (.slice (some ⟨w.heap.size,0,none⟩) xs.length xs.length) xs.length (xs.map I)/\Ext w w':=by
 obtain ⟨i0,hi,hz0,hz1,hz2⟩:=info_parts Tryz.infoInt;obtain ⟨hlen,ao,cap,rfl,h1,h2,h0,h3⟩:=hv;unfold maxLen at h2;go_enter Tryz.func55,Tryz.ntmps55
 go_wp2_with (at_make; refine wpList_make_full _ rfl _ _ 25 rfl w.heap.size 3 i0 (.int .i64 0) 1 zsY hi hz0 hz1 .i64 .i64 _ _ xs.length rfl rfl rfl rfl (by rw [hz2]; omega) (by unfold maxLen; omega) (Nat.le_refl _) ?_; intro w1 hown hgrow)
 have he1:Ext w w1:=(Ext.refl w).grown hgrow (fun k hk=>by cases hk);obtain ⟨w2,hrun,hown2,hgrow2⟩:=zls (P:=Tryz.prog) w1 25 3 3 zsY Tryz.infoInt1 w.heap.size w.heap.size xs.length _ (xs.map I) _ hown (Row.ext ⟨hlen,ao,cap,rfl,h1,h2,h0,h3⟩ he1) (zmu xs);have he2:Ext w w2:=he1.grown hgrow2 (fun k hk=>by cases hk; exact Nat.le_refl _);rw [hrun];clear hrun hown hgrow hgrow2 he1 h3;go_wp2
 go_ret
 exact ⟨rfl,hown2,he2⟩

theorem zpr (v u:Value) (xs:List Int) (l:List (Int×Int)) (w:World) (hv:zc2 w v xs) (hu:zar w u l) (hr:xs.length * 8<=140737488355328) (hr2:l.length * 16<=140737488355328) :
  zaw Tryz.prog 32 #[v,u] w fun r w'=>∃ n,w'.ownsRow w.heap.size 3 1 r n ((zav xs l).map I):=by
 unfold zaw;obtain ⟨ao,cap,rfl,h1,h2,h3⟩:=hu.form;unfold maxLen at h2;go_enter Tryz.func32,Tryz.ntmps32
 go_wp2_with fail
 refine (zo6 v xs _ hv hr).mono ?_;rintro e w1 ⟨rfl,hown,he⟩
 generalize hg:w.heap.size=g at hown ⊢;have HG:Hid (w.heap.size=g):=hg;clear hg;go_wp2_with fail
 go_loopw [12] (fun i wr=>∃ k:Nat,k<=l.length/\i=I k/\wr.ownsRow g 3 1 (.slice (some ⟨g,0,none⟩) xs.length xs.length) xs.length ((zav xs (l.take k)).map I)/\Ext w wr) (fun i _=>l.length - (intOf i).toNat)
 case atStart=>exact ⟨0,by omega,rfl,hown,he⟩
 case round =>
  obtain ⟨k,hk,rfl,hown',he'⟩:=hrel;clear hown he;by_cases hlt:k < l.length
  ·obtain ⟨b,off,rfl,hc1,hc2⟩:=h3 k hlt;clear h3;have hd1:=he'.cell hc1;have hd2:=he'.cell hc2;clear hc1 hc2;generalize hp:l.getD k (0,0)=p at hd1 hd2;have HP:Hid (l[k]?=some p):=by unfold Hid; rw [<- hp]; simp [hlt]
   clear hp;obtain ⟨at_,n⟩:=p;simp only [] at hd1 hd2;have hyl:(zav xs (l.take k)).length=xs.length:=zbS _ _;have HN:Hid (zav xs (l.take (k+1))=zc1 (zav xs (l.take k)) (at_,n)):=by unfold Hid; rw [List.take_add_one,HP.o]; exact zh7 _ _ _
   generalize zav xs (l.take k)=ys at hown' HN hyl;have HYL:Hid (ys.length=xs.length):=hyl;clear hyl;have hown2:=fun o=>hown'.alloc o;have fz:∀ o,(wr.alloc o).frozen? ⟨g,at_.toNat,none⟩=false:=fun o=>(hown2 o).frozenAt _;by_cases hin:0<=at_/\at_ < (xs.length:Int)
   ·obtain ⟨i1,i2⟩:=hin
    have hc:∀ o,(wr.alloc o).cell? ⟨g,at_.toNat,none⟩=some (I (ys.getD at_.toNat 0)):=fun o=>by
     rw [(hown2 o).cellAt _ (by omega)];have:at_.toNat < ys.length:=by rw [HYL.o]; omega
     simp [this]
    have i3:at_ < (ys.length:Int):=by rw [HYL.o]; exact i2
    go_wp2_with (go_at_call 56; refine Calls.same (ziJ _ ys at_ _ (zdC (hown2 _))) ?_)
    go_roundw
    case rel =>
     refine ⟨k+1,by omega,by go_num,?_,(he'.alloc _).setCell (by rw [HG.o]; exact Nat.le_refl _) _⟩;rw [HN.o];unfold zc1;rw [if_pos ⟨i1,i3⟩,List.map_set];exact ((hown2 _).stored _ _).1
    case measure=>simp [intOf]; omega
   ·have hdc:decide (0<=at_/\at_ < (ys.length:Int))=false:=by rw [HYL.o]; simp; omega
    go_wp2_with (go_at_call 56; refine Calls.same (ziJ _ ys at_ _ (zdC (hown2 _))) ?_)
    go_roundw
    case rel =>
     refine ⟨k+1,by omega,by go_num,?_,he'.alloc _⟩;rw [HN.o];unfold zc1;rw [if_neg (by rw [HYL.o]; exact hin)];exact hown2 _
    case measure=>simp [intOf]; omega
  ·go_wp2_with fail
   go_ret
   refine ⟨_,rfl,he',xs.length,?_⟩;rw [List.take_of_length_le (by omega)] at hown';rw [HG.o];exact hown'

open Go.RowKit Go.Mk

theorem zmT (v:Value) (us:List (Int×Int)) (n base:Nat) (w:World) (ho:w.ownsRow base 52 2 v n (zaC us)) (hr:us.length * 16<=140737488355328) :
  Calls Tryz.prog 146 #[v] w fun e w'=>e=.returned (.tuple #[])/\w'.ownsRow base 52 2 v n (zaC us.reverse)/\w.grownBy w' v.ownBlock:=by
 have hn:us.length=n:=by have:=ho.1; rw [zcd] at this; omega
 rcases ho.2 with ⟨rfl,hz⟩ | ⟨g,cap,cur,rfl,hb,hg,hnc,hcm,_⟩
 ·have:us=[]:=List.eq_nil_of_length_eq_zero (by omega);subst this;go_enter Tryz.func146,Tryz.ntmps146
  go_wp2
  refine wp_loop_rounds 1 ?_;rw [rounds_succ];go_wp2
  go_end0
  exact ⟨rfl,ho,World.grownBy.refl _ _⟩
 ·clear hg;unfold maxLen at hcm;go_enter Tryz.func146,Tryz.ntmps146
  go_wp2
  go_loopw [2,3] (fun i j wr=>∃ k:Nat,2 * k<=n/\i=I k/\j=I ((n:Int) - 1 - k)/\wr.ownsRow base 52 2 (.slice (some ⟨g,0,none⟩) n cap) n (zaC (rv us k))/\w.grownBy wr (some g)) (fun i _ _=>n - (intOf i).toNat)
  case atStart=>exact ⟨0,by omega,rfl,by simp,by rw [ztp]; exact ho,World.grownBy.refl _ _⟩
  case round =>
   obtain ⟨k,hk,rfl,rfl,hown,hgr⟩:=hrel;by_cases hlt:2 * k+1 < n
   ·have hlen:=zhM us k;obtain ⟨r1,r2⟩:=zu5 us k (by omega);obtain ⟨c1,c2⟩:=zeW (rv us k) k (by omega);obtain ⟨c3,c4⟩:=zeW (rv us k) (us.length - 1 - k) (by omega);rw [r1] at c1 c2;rw [r2] at c3 c4;rw [<- hown.cellAt _ (by omega)] at c1 c2 c3 c4;have HS:Hid (rv us (k+1)=((rv us k).set k (us.getD (us.length - 1 - k) (0,0))).set (us.length - 1 - k) (us.getD k (0,0))):=zs9 us k (by omega);generalize us.getD k (0,0)=p at *;generalize us.getD (us.length - 1 - k) (0,0)=q at *;obtain ⟨p1,p2⟩:=p;obtain ⟨q1,q2⟩:=q;simp only [] at c1 c2 c3 c4;have hj:us.length - 1 - k=n - 1 - k:=by rw [hn]
    rw [hj] at c3 c4 HS;generalize hJ:n - 1 - k=J at *;have hJ':(n:Int) - 1 - k=(J:Int):=by omega
    rw [hJ'];go_wp2_with fail
    have f1:wr.frozen? ⟨g,k * 2,none⟩=false:=hown.frozenAt _;have f2:wr.frozen? ⟨g,k * 2+1,none⟩=false:=hown.frozenAt _;have f3:wr.frozen? ⟨g,J * 2,none⟩=false:=hown.frozenAt _;have f4:wr.frozen? ⟨g,J * 2+1,none⟩=false:=hown.frozenAt _;have hJn:J < n:=by omega
    have hkn:k < n:=by omega
    have hkJ:k < J:=by omega
    go_region
    have s1:=hown.stored (k * 2) (I q1);have s2:=s1.1.stored (k * 2+1) (I q2);have s3:=s2.1.stored (J * 2) (I p1);have s4:=s3.1.stored (J * 2+1) (I p2);have hgr':w.grownBy _ (some g):=zaz (zaz (zaz (zaz hgr s1.2) s2.2) s3.2) s4.2;have hown':=s4.1;clear s1 s2 s3 s4 c1 c2 c3 c4 f1 f2 f3 f4;go_wp2
    go_roundw
    case rel =>
     refine ⟨k+1,by omega,by go_num,by go_num,?_,zjg hgr'⟩;rw [HS.o,zfr,zfr];exact hown'
    case measure=>simp [intOf]; omega
   ·go_wp2
    go_end0
    rw [zuG us k (by omega)] at hown;exact ⟨rfl,hown,hgr⟩

theorem zrA (v u:Value) (xs:List Int) (l:List (Int×Int)) (w:World) (hv:zc2 w v xs) (hu:zar w u l) (hr:xs.length * 8<=140737488355328) (hr2:l.length * 16<=140737488355328) :
  zaw Tryz.prog 134 #[v,u] w fun r w'=>∃ n,w'.ownsRow w.heap.size 52 2 r n (zaC (zbh xs l)):=by
 unfold zaw;obtain ⟨i0,hi,hz0,hz1,hz2⟩:=info_parts Tryz.infoWrite;obtain ⟨ao,cap,rfl,h1,h2,h3⟩:=hu.form;unfold maxLen at h2;go_enter Tryz.func134,Tryz.ntmps134
 go_wp2_with fail
 refine (zo6 v xs _ hv hr).mono ?_;rintro e w1 ⟨rfl,hown,he⟩
 generalize hg:w.heap.size=g at hown ⊢;have HG:Hid (w.heap.size=g):=hg;clear hg;have hsz1:g+1<=w1.heap.size:=(hown.lt g rfl).2;go_wp2_with fail
 go_loopw [6,13] (fun o i wr=>∃ k:Nat,k<=l.length/\i=I k/\wr.ownsRow g 3 1 (.slice (some ⟨g,0,none⟩) xs.length xs.length) xs.length ((zav xs (l.take k)).map I) /\
   wr.ownsRow (g+1) 52 2 o (zbh xs (l.take k)).reverse.length (zaC (zbh xs (l.take k)).reverse)/\g+1<=wr.heap.size/\Ext w wr) (fun _ i _=>l.length - (intOf i).toNat)
 case atStart=>exact ⟨0,by omega,rfl,hown,World.ownsRow_nil _ _ _ _,hsz1,he⟩
 case round =>
  obtain ⟨k,hk,rfl,hown',hout,hsz,he'⟩:=hrel;clear hown he;have hul:(zbh xs (l.take k)).reverse.length<=k:=by have:=zfZ xs (l.take k); simp at this ⊢; omega
  have h6:=hout.lt;by_cases hlt:k < l.length
  ·obtain ⟨b,off,rfl,hc1,hc2⟩:=h3 k hlt;clear h3;have hd1:=he'.cell hc1;have hd2:=he'.cell hc2;clear hc1 hc2;generalize hp:l.getD k (0,0)=p at hd1 hd2;have HP:Hid (l[k]?=some p):=by unfold Hid; rw [<- hp]; simp [hlt]
   clear hp;obtain ⟨at_,n⟩:=p;simp only [] at hd1 hd2;have hyl:(zav xs (l.take k)).length=xs.length:=zbS _ _;have HN:Hid (zav xs (l.take (k+1))=zc1 (zav xs (l.take k)) (at_,n)):=by unfold Hid; rw [List.take_add_one,HP.o]; exact zh7 _ _ _
   have HU:Hid ((zbh xs (l.take (k+1))).reverse=(zbh xs (l.take k)).reverse++(if 0<=at_/\at_ < (xs.length:Int) then [(at_,(zav xs (l.take k)).getD at_.toNat 0)] else [])):=by
    unfold Hid;rw [List.take_add_one,HP.o];show (zbh xs (l.take k++[(at_,n)])).reverse=_
    rw [zl6,List.reverse_append];split <;> simp
   generalize zav xs (l.take k)=ys at hown' HN HU hyl;generalize (zbh xs (l.take k)).reverse=us at hout HU hul;have HYL:Hid (ys.length=xs.length):=hyl;clear hyl;have hown2:=fun o=>hown'.alloc o;have fz:∀ o,(wr.alloc o).frozen? ⟨g,at_.toNat,none⟩=false:=fun o=>(hown2 o).frozenAt _;by_cases hin:0<=at_/\at_ < (xs.length:Int)
   ·obtain ⟨i1,i2⟩:=hin
    have hc:∀ o,(wr.alloc o).cell? ⟨g,at_.toNat,none⟩=some (I (ys.getD at_.toNat 0)):=fun o=>by
     rw [(hown2 o).cellAt _ (by omega)];have:at_.toNat < ys.length:=by rw [HYL.o]; omega
     simp [this]
    have i3:at_ < (ys.length:Int):=by rw [HYL.o]; exact i2
    go_wp2_with (go_at_call 56; refine Calls.same (ziJ _ ys at_ _ (zdC (hown2 _))) ?_)
    have hout2:=hout.alloc (Obj.cells #[Value.int IntKind.i64 at_,Value.int IntKind.i64 n] 52);have hown3:=hown2 (Obj.cells #[Value.int IntKind.i64 at_,Value.int IntKind.i64 n] 52);have he3:=he'.alloc (Obj.cells #[Value.int IntKind.i64 at_,Value.int IntKind.i64 n] 52);have hsz3:g+1<=(wr.alloc (Obj.cells #[Value.int IntKind.i64 at_,Value.int IntKind.i64 n] 52)).heap.size:=by simp; omega
    have e1:(wr.alloc (Obj.cells #[Value.int IntKind.i64 at_,Value.int IntKind.i64 n] 52)).cell? ⟨wr.heap.size,0,none⟩=some (I at_):=by simp
    have e1':(wr.alloc (Obj.cells #[Value.int IntKind.i64 at_,Value.int IntKind.i64 n] 52)).cell? ⟨wr.heap.size,1,none⟩=some (I n):=by simp
    have e2:=hc (Obj.cells #[Value.int IntKind.i64 at_,Value.int IntKind.i64 n] 52);have hwr:wr.heap.size < (wr.alloc (Obj.cells #[Value.int IntKind.i64 at_,Value.int IntKind.i64 n] 52)).heap.size:=by simp
    generalize wr.alloc (Obj.cells #[Value.int IntKind.i64 at_,Value.int IntKind.i64 n] 52)=W at *;clear hd1 hd2 hown2 fz hc hown' hout hsz he';generalize hY:ys.getD at_.toNat 0=y at *;refine zap 10 [none,none,none,none,none,none,none,none,none,some (.inr fun v w=>zar w v [(at_,y)])] (by kernel_rfl) (by kernel_rfl) ?_ ?_
    ·exact ⟨trivial,trivial,trivial,trivial,trivial,trivial,trivial,trivial,trivial,zgT _,trivial⟩
    iterate 2 (refine zat (fun K hK=>?_); go_simp; refine hK _ ?_; clear hK K)
    refine zaK (I at_) rfl (fun w' hw'=>by have:=hw'.cell e1; go_simp) ?_;iterate 2 (refine zat (fun K hK=>?_); go_simp; refine hK _ ?_; clear hK K)
    refine zaK (I at_) rfl (fun w' hw'=>by have:=hw'.cell e1; go_simp) ?_;(refine zat (fun K hK=>?_); go_simp; refine hK _ ?_; clear hK K)
    refine zaK (I y) rfl (fun w' hw'=>by have:=hw'.cell e2; go_simp) ?_;(refine zat (fun K hK=>?_); go_simp; refine hK _ ?_; clear hK K)
    refine zbq _ rfl (fun w' hw' _=>?_) (fun v30=>?_)
    ·unfold za0;go_simp
     exact ⟨(Ext.refl _).alloc _,zgY _ _ _ 1 rfl rfl (by decide)⟩
    refine za5 ?_;intro w2 he2 hF;have h30:zar w2 v30 [(at_,y)]:=hF 30;clear hF;have e3:=he2.cell e1;have e3':=he2.cell e1';refine zaJ _ rfl (.tmp 21) (.tmp 30) 26 rfl (g+1) 52 i0 _ 2 16 zj2 hi hz0 hz1 hz2 rfl (by decide) u6 us.length (zaC us) rfl ?_ v30 rfl 1 _ h30 (zdf _) (by omega) (by decide) ?_ ?_
    ·exact zai hout2 he2
    ·exact Nat.le_trans hsz3 he2.size
    intro o' w3 ho hg3;have hneg:u6.ownBlock≠some g:=fun e=>by have:=(h6 g e).1; omega
    have hnep:u6.ownBlock≠some wr.heap.size:=fun e=>by have:=(h6 _ e).2; omega
    have e4:=zgR hg3 e3 hnep;have e4':=zgR hg3 e3' hnep;have hown4:=(zai hown3 he2).kept hg3 (.inr (fun e=>hneg e.symm));have he4:Ext w w3:=(he3.trans he2).grown hg3 (fun k hk=>by have:=(h6 k hk).1; have:=HG.o; omega);have hsz4:g+1<=w3.heap.size:=Nat.le_trans hsz3 (Nat.le_trans he2.size hg3.size);have e5:w3.cell? ⟨g,at_.toNat,none⟩=some (I y):=zgR hg3 (he2.cell e2) hneg;have f5:w3.frozen? ⟨g,at_.toNat,none⟩=false:=hown4.frozenAt _;clear e1 e1' e2 e3 e3' hown3 hout2 he3 hsz3 hg3 he2 h30 hwr;go_wp2
    go_roundw
    case rel =>
     have hst:=hown4.stored at_.toNat (I n);have ho2:=ho.kept hst.2 (.inr (fun e=>by have:=(ho.lt g e).1; omega));refine ⟨k+1,by omega,by go_num,?_,?_,by simpa using hsz4,he4.setCell (by rw [HG.o]; exact Nat.le_refl _) _⟩
     ·rw [HN.o];unfold zc1;rw [if_pos ⟨i1,i3⟩,List.map_set];exact hst.1
     ·rw [HU.o,if_pos ⟨i1,i2⟩,zcy,List.length_append];exact ho2
    case measure=>simp [intOf]; omega
   ·have hdc:decide (0<=at_/\at_ < (ys.length:Int))=false:=by rw [HYL.o]; simp; omega
    go_wp2_with (go_at_call 56; refine Calls.same (ziJ _ ys at_ _ (zdC (hown2 _))) ?_)
    go_roundw
    case rel =>
     refine ⟨k+1,by omega,by go_num,?_,?_,by simp; omega,he'.alloc _⟩
     ·rw [HN.o];unfold zc1;rw [if_neg (by rw [HYL.o]; exact hin)];exact hown2 _
     ·rw [HU.o,if_neg hin,List.append_nil];exact hout.alloc _
    case measure=>simp [intOf]; omega
  ·rw [List.take_of_length_le (by omega)] at hout;clear hown' h3;go_wp2_with fail
   refine (zmT _ _ _ _ _ hout (by have:=zfZ xs l; simp; omega)).mono ?_;rintro e w3 ⟨rfl,ho,hg⟩
   rw [List.reverse_reverse] at ho;have he3:Ext w w3:=he'.grown hg (fun k hk=>by have:=(h6 k hk).1; have:=HG.o; omega);clear hg;go_wp2
   go_ret
   exact ⟨_,rfl,he3,_,zaL ho (by have:=HG.o; omega)⟩

open Go.RowKit Go.Mk

theorem zs0 (w:World):zaw Tryz.prog 66 #[] w fun r w'=>∃ n,w'.ownsRow w.heap.size 3 1 r n ((List.replicate 11 (0:Int)).map I):=by
 unfold zaw;have hmk:∀ w,(Instr.makeSlice 25 (.int .i64 11) (.int .i64 11)).run Tryz.prog w=.ok (.slice (some ⟨w.heap.size,0,none⟩) 11 11) (w.alloc (.cells (List.replicate 11 (I 0)).toArray 3)):=fun _=>by kernel_rfl
 go_enter Tryz.func66,Tryz.ntmps66
 go_wp2
 go_ret
 exact ⟨_,rfl,(Ext.refl _).alloc _,11,World.ownsRow_lit (base:=w.heap.size) (e:=3) (size:=1) w _ 11 (Nat.le_refl _) (by decide) rfl⟩

open Go.RowKit Go.Mk

theorem zrg (v:Value) (xs:List Int) (w:World) (hv:zc2 w v xs) (hr:xs.length * 8<=140737488355328) :
  zaw Tryz.prog 51 #[v] w fun r w'=>w'.ownsRow w.heap.size 3 1 r xs.length (xs.map I):=by
 unfold zaw;obtain ⟨i0,hi,hz0,hz1,hz2⟩:=info_parts Tryz.infoInt;have hsz:(Tryz.prog.info? 3).map (·.size)=some 1:=by rw [hi]; simp [hz1]
 have hrow:Row w 1 v xs.length (xs.map I):=hv;clear hv;obtain ⟨hlen,ao,cap,rfl,h1,h2,h0,h3⟩:=hrow;unfold maxLen at h2;go_enter Tryz.func51,Tryz.ntmps51
 go_wp2_with (at_make; refine wpList_make_full _ rfl _ _ 25 rfl w.heap.size 3 i0 (.int .i64 0) 1 zsY hi hz0 hz1 .i64 .i64 _ _ xs.length rfl rfl rfl rfl (by rw [hz2]; omega) (by unfold maxLen; omega) (Nat.le_refl _) ?_; intro w1 hown hgrow)
 have he1:Ext w w1:=(Ext.refl w).grown hgrow (fun k hk=>by cases hk);obtain ⟨w2,hrun,hown2,hgrow2⟩:=zbn (P:=Tryz.prog) w1 25 3 3 1 zsY hsz w.heap.size w.heap.size xs.length _ (xs.map I) _ hown (Row.ext ⟨hlen,ao,cap,rfl,h1,h2,h0,h3⟩ he1) (zmu xs);have he2:Ext w w2:=he1.grown hgrow2 (fun k hk=>by cases hk; exact Nat.le_refl _);rw [hrun];clear hrun hown hgrow hgrow2 he1 h3;go_wp2
 go_ret
 exact ⟨_,rfl,he2,hown2⟩

theorem zoW (v:Value) (xs:List (Int×Int)) (w:World) (hv:zar w v xs) (hr:xs.length * 16<=140737488355328) :
  zaw Tryz.prog 52 #[v] w fun r w'=>w'.ownsRow w.heap.size 52 2 r xs.length (zaC xs):=by
 unfold zaw;obtain ⟨i0,hi,hz0,hz1,hz2⟩:=info_parts Tryz.infoWrite;have hsz:(Tryz.prog.info? 52).map (·.size)=some 2:=by rw [hi]; simp [hz1]
 have hrow:Row w 2 v xs.length (zaC xs):=hv;clear hv;obtain ⟨hlen,ao,cap,rfl,h1,h2,h0,h3⟩:=hrow;unfold maxLen at h2;go_enter Tryz.func52,Tryz.ntmps52
 go_wp2_with (at_make; refine wpList_make_full _ rfl _ _ 26 rfl w.heap.size 52 i0 (.agg #[.int .i64 0,.int .i64 0]) 2 zj2 hi hz0 hz1 .i64 .i64 _ _ xs.length rfl rfl rfl rfl (by rw [hz2]; omega) (by unfold maxLen; omega) (Nat.le_refl _) ?_; intro w1 hown hgrow)
 have he1:Ext w w1:=(Ext.refl w).grown hgrow (fun k hk=>by cases hk);obtain ⟨w2,hrun,hown2,hgrow2⟩:=zbn (P:=Tryz.prog) w1 26 3 52 2 zj2 hsz w.heap.size w.heap.size xs.length _ (zaC xs) _ hown (Row.ext ⟨hlen,ao,cap,rfl,h1,h2,h0,h3⟩ he1) (zdf xs);have he2:Ext w w2:=he1.grown hgrow2 (fun k hk=>by cases hk; exact Nat.le_refl _);rw [hrun];clear hrun hown hgrow hgrow2 he1 h3;go_wp2
 go_ret
 exact ⟨_,rfl,he2,hown2⟩

theorem zrL (v:Value) (xs:List An) (w:World) (hv:zaj 4 zgO w v xs) (hr:xs.length * 32<=140737488355328) :
  zaw Tryz.prog 53 #[v] w fun r w'=>w'.ownsRow w.heap.size 118 4 r xs.length (zbj xs):=by
 unfold zaw;obtain ⟨i0,hi,hz0,hz1,hz2⟩:=info_parts Tryz.infoAnswer;have hsz:(Tryz.prog.info? 118).map (·.size)=some 4:=by rw [hi]; simp [hz1]
 have hrow:Row w 4 v xs.length (zbj xs):=(zcc (f:=fun (x:An)=>[I x.client,I x.token,I x.reply.err,I x.reply.n]) (fun _=>rfl)).1 hv;clear hv;obtain ⟨hlen,ao,cap,rfl,h1,h2,h0,h3⟩:=hrow;unfold maxLen at h2;go_enter Tryz.func53,Tryz.ntmps53
 go_wp2_with (at_make; refine wpList_make_full _ rfl _ _ 27 rfl w.heap.size 118 i0 (.agg #[.int .i64 0,.int .i64 0,.int .i64 0,.int .i64 0]) 4 zt4 hi hz0 hz1 .i64 .i64 _ _ xs.length rfl rfl rfl rfl (by rw [hz2]; omega) (by unfold maxLen; omega) (Nat.le_refl _) ?_; intro w1 hown hgrow)
 have he1:Ext w w1:=(Ext.refl w).grown hgrow (fun k hk=>by cases hk);obtain ⟨w2,hrun,hown2,hgrow2⟩:=zbn (P:=Tryz.prog) w1 27 3 118 4 zt4 hsz w.heap.size w.heap.size xs.length _ (zbj xs) _ hown (Row.ext ⟨hlen,ao,cap,rfl,h1,h2,h0,h3⟩ he1) (zi1 xs);have he2:Ext w w2:=he1.grown hgrow2 (fun k hk=>by cases hk; exact Nat.le_refl _);rw [hrun];clear hrun hown hgrow hgrow2 he1 h3;go_wp2
 go_ret
 exact ⟨_,rfl,he2,hown2⟩

theorem zrc (v:Value) (xs:List Rq) (w:World) (hv:zaj 6 zhJ w v xs) (hr:xs.length * 48<=140737488355328) :
  zaw Tryz.prog 54 #[v] w fun r w'=>w'.ownsRow w.heap.size 35 6 r xs.length (zbM xs):=by
 unfold zaw;obtain ⟨i0,hi,hz0,hz1,hz2⟩:=info_parts Tryz.infoRequest;have hsz:(Tryz.prog.info? 35).map (·.size)=some 6:=by rw [hi]; simp [hz1]
 have hrow:Row w 6 v xs.length (zbM xs):=zg5.1 hv;clear hv;obtain ⟨hlen,ao,cap,rfl,h1,h2,h0,h3⟩:=hrow;unfold maxLen at h2;go_enter Tryz.func54,Tryz.ntmps54
 go_wp2_with (at_make; refine wpList_make_full _ rfl _ _ 28 rfl w.heap.size 35 i0 (.agg #[.int .i64 0,.int .i64 0,.int .i64 0,.int .i64 0,.int .i64 0,.int .i64 0]) 6 zue hi hz0 hz1 .i64 .i64 _ _ xs.length rfl rfl rfl rfl (by rw [hz2]; omega) (by unfold maxLen; omega) (Nat.le_refl _) ?_; intro w1 hown hgrow)
 have he1:Ext w w1:=(Ext.refl w).grown hgrow (fun k hk=>by cases hk);obtain ⟨w2,hrun,hown2,hgrow2⟩:=zbn (P:=Tryz.prog) w1 28 3 35 6 zue hsz w.heap.size w.heap.size xs.length _ (zbM xs) _ hown (Row.ext ⟨hlen,ao,cap,rfl,h1,h2,h0,h3⟩ he1) (zje xs);have he2:Ext w w2:=he1.grown hgrow2 (fun k hk=>by cases hk; exact Nat.le_refl _);rw [hrun];clear hrun hown hgrow hgrow2 he1 h3;go_wp2
 go_ret
 exact ⟨_,rfl,he2,hown2⟩

structure OwnSt (base:Nat) (w:World) (c u a p:Value) (s:St):Prop where
 cells:w.ownsRow base 3 1 c s.cells.length (s.cells.map I)
 undo:w.ownsRow base 52 2 u s.undo.length (zaC s.undo)
 answers:w.ownsRow base 118 4 a s.answers.length (zbj s.answers)
 past:w.ownsRow base 35 6 p s.past.length (zbM s.past)
theorem OwnSt.rd {base:Nat} {w:World} {c u a p:Value} {s:St} (h:OwnSt base w c u a p s):Rd (fun k=>base<=k) (fun w=>zc7 w [c,u,a,p] s) w :=
 zjY (zeN h.cells) (zeg h.undo) (zgo h.answers) (ziW h.past)
theorem OwnSt.ext {base:Nat} {w w':World} {c u a p:Value} {s:St} (h:OwnSt base w c u a p s) (he:Ext w w'):OwnSt base w' c u a p s :=
 ⟨zai h.cells he,zai h.undo he,zai h.answers he,zai h.past he⟩
theorem zeM {w:World} {base e size n b:Nat} {v:Value} {xs:List Value} (h:w.ownsRow base e size v n xs) (hb:b < base):v.ownBlock≠some b:=fun e=>by have:=(h.lt b e).1; omega
theorem OwnSt.set {base:Nat} {w:World} {c u a p:Value} {s:St} (h:OwnSt base w c u a p s) {b:Nat} (hb:b < base) (i:Nat) (x:Value):OwnSt base (w.setCell ⟨b,i,none⟩ x) c u a p s :=
 ⟨za1 h.cells (zeM h.cells hb) i x,za1 h.undo (zeM h.undo hb) i x,za1 h.answers (zeM h.answers hb) i x,za1 h.past (zeM h.past hb) i x⟩
theorem OwnSt.low {b1 b2:Nat} {w:World} {c u a p:Value} {s:St} (h:OwnSt b1 w c u a p s) (hle:b2<=b1):OwnSt b2 w c u a p s:=⟨zaL h.cells hle,zaL h.undo hle,zaL h.answers hle,zaL h.past hle⟩
theorem zaD {w:World} {base e size n:Nat} {v:Value} {xs:List Value} (h:w.ownsRow base e size v n xs):∃ ao cap,v=.slice ao n cap:=zao (Row.of_owns h)

def ziO (s:St):Prop:=s.cells.length * 8<=100000000000000/\s.undo.length * 16<=100000000000000/\s.answers.length * 32<=100000000000000/\s.past.length * 48<=100000000000000

theorem zhn (c u a p:Value) (s:St) (w:World) (h:zc7 w [c,u,a,p] s) (hs:ziO s) :
  zaw Tryz.prog 31 #[.agg #[c,u,a,p]] w fun r w'=>∃ c' u' a' p',r=.agg #[c',u',a',p']/\OwnSt (w.heap.size+2) w' c' u' a' p' s:=by
 unfold zaw;obtain ⟨h1,h2,h3,h4⟩:=zcQ.1 h;clear h;have HS:=zhd hs;clear hs;unfold ziO at HS;obtain ⟨ca,cc,rfl⟩:=zao h1;obtain ⟨ua,uc,rfl⟩:=zao h2;obtain ⟨aa,ac,rfl⟩:=zaf h3;obtain ⟨pa,pc,rfl⟩:=zaf h4;generalize hc:Value.slice ca s.cells.length cc=c at *;generalize hu:Value.slice ua s.undo.length uc=u at *;generalize ha:Value.slice aa s.answers.length ac=a at *;generalize hp:Value.slice pa s.past.length pc=p at *;clear hc hu ha hp;have e0:Ext w ((w.alloc (.cells #[c,u,a,p] 30)).alloc (.cells zT4 30)):=((Ext.refl w).alloc _).alloc _;have HB:=zhd (fun wx (h:Ext ((w.alloc (.cells #[c,u,a,p] 30)).alloc (.cells zT4 30)) wx)=>And.intro (zcT h) (zdq h));have hsz:((w.alloc (.cells #[c,u,a,p] 30)).alloc (.cells zT4 30)).heap.size=w.heap.size+2:=by simp
 have HSZ:=zhd hsz;clear hsz;go_enter Tryz.func31,Tryz.ntmps31
 go_wp2_with fail
 generalize hw0:(w.alloc (.cells #[c,u,a,p] 30)).alloc (.cells zT4 30)=w0 at *;clear hw0;obtain ⟨b0,-⟩:=HB.o w0 (Ext.refl _);obtain ⟨x0,x1,x2,x3,-⟩:=zcf b0;clear b0;refine zap 12 [none,none,some (.inr (fun v wx=>wx.ownsRow w0.heap.size 3 1 v s.cells.length (s.cells.map I))),none,none,some (.inr (fun v wx=>wx.ownsRow w0.heap.size 52 2 v s.undo.length (zaC s.undo))),none,none,some (.inr (fun v wx=>wx.ownsRow w0.heap.size 118 4 v s.answers.length (zbj s.answers))),none,none,some (.inr (fun v wx=>wx.ownsRow w0.heap.size 35 6 v s.past.length (zbM s.past)))] (by kernel_rfl) (by kernel_rfl) ?_ ?_
 ·exact ⟨trivial,trivial,zev _ _ _ _ _,trivial,trivial,zev _ _ _ _ _,trivial,trivial,zev _ _ _ _ _,trivial,trivial,zev _ _ _ _ _,trivial⟩
 (refine zat (fun K hK=>?_); go_simp; first | refine hK _ ?_ | refine ⟨(fun h=>by cases h),hK _ ?_⟩; clear hK K)
 refine zaK (c) rfl (fun w' hw'=>by have q0:=hw'.cell x0; go_simp) ?_;refine zan fun K h=>?_; go_simp; refine h _ ?_; clear h K;refine zbq _ rfl (fun w' hw' hk=>?_) (fun v5=>?_)
 ·have hw2:=e0.trans hw';have hle:=hw'.size;clear hk;unfold za0;go_simp
  exact ⟨Ext.refl _,(zrg c s.cells w' (h1.ext hw2) (by have:=HS.o.1; omega)).mono fun _ _ _ h=>zaL h hle⟩
 refine zan fun K h=>?_; go_simp; refine h _ ?_; clear h K;(refine zat (fun K hK=>?_); go_simp; first | refine hK _ ?_ | refine ⟨(fun h=>by cases h),hK _ ?_⟩; clear hK K)
 refine zaK (u) rfl (fun w' hw'=>by have q0:=hw'.cell x1; go_simp) ?_;refine zan fun K h=>?_; go_simp; refine h _ ?_; clear h K;refine zbq _ rfl (fun w' hw' hk=>?_) (fun v8=>?_)
 ·have hw2:=e0.trans hw';have hle:=hw'.size;clear hk;unfold za0;go_simp
  exact ⟨Ext.refl _,(zoW u s.undo w' (h2.ext hw2) (by have:=HS.o.2.1; omega)).mono fun _ _ _ h=>zaL h hle⟩
 refine zan fun K h=>?_; go_simp; refine h _ ?_; clear h K;(refine zat (fun K hK=>?_); go_simp; first | refine hK _ ?_ | refine ⟨(fun h=>by cases h),hK _ ?_⟩; clear hK K)
 refine zaK (a) rfl (fun w' hw'=>by have q0:=hw'.cell x2; go_simp) ?_;refine zan fun K h=>?_; go_simp; refine h _ ?_; clear h K;refine zbq _ rfl (fun w' hw' hk=>?_) (fun v11=>?_)
 ·have hw2:=e0.trans hw';have hle:=hw'.size;clear hk;unfold za0;go_simp
  exact ⟨Ext.refl _,(zrL a s.answers w' (h3.ext zfW hw2) (by have:=HS.o.2.2.1; omega)).mono fun _ _ _ h=>zaL h hle⟩
 refine zan fun K h=>?_; go_simp; refine h _ ?_; clear h K;(refine zat (fun K hK=>?_); go_simp; first | refine hK _ ?_ | refine ⟨(fun h=>by cases h),hK _ ?_⟩; clear hK K)
 refine zaK (p) rfl (fun w' hw'=>by have q0:=hw'.cell x3; go_simp) ?_;refine zan fun K h=>?_; go_simp; refine h _ ?_; clear h K;refine zbq _ rfl (fun w' hw' hk=>?_) (fun v14=>?_)
 ·have hw2:=e0.trans hw';have hle:=hw'.size;clear hk;unfold za0;go_simp
  exact ⟨Ext.refl _,(zrc p s.past w' (h4.ext zoc hw2) (by have:=HS.o.2.2.2; omega)).mono fun _ _ _ h=>zaL h hle⟩
 refine zan fun K h=>?_; go_simp; refine h _ ?_; clear h K;refine za5 ?_;intro w1 e1 hX;have o0:w1.ownsRow w0.heap.size 3 1 v5 s.cells.length (s.cells.map I):=hX 5;have o1:w1.ownsRow w0.heap.size 52 2 v8 s.undo.length (zaC s.undo):=hX 8;have o2:w1.ownsRow w0.heap.size 118 4 v11 s.answers.length (zbj s.answers):=hX 11;have o3:w1.ownsRow w0.heap.size 35 6 v14 s.past.length (zbM s.past):=hX 14;clear hX x0 x1 x2 x3;have ho:OwnSt w0.heap.size w1 v5 v8 v11 v14 s:=⟨o0,o1,o2,o3⟩;obtain ⟨ka,kc,hk0⟩:=zaD o0;obtain ⟨la,lc,hk1⟩:=zaD o1;obtain ⟨ma,mc,hk2⟩:=zaD o2;obtain ⟨na,nc,hk3⟩:=zaD o3;subst hk0 hk1 hk2 hk3;clear o0 o1 o2 o3;have HO:=zhd ho;clear ho;obtain ⟨-,b1⟩:=HB.o w1 e1;obtain ⟨y0,y1,y2,y3,f0,f1,f2,f3⟩:=zcf b1;go_wp2_with fail
 clear y0 y1 y2 y3 f0 f1 f2 f3;have b2:=set4 b1 (.slice ka s.cells.length kc) (.slice la s.undo.length lc) (.slice ma s.answers.length mc) (.slice na s.past.length nc);obtain ⟨q0,q1,q2,q3,-⟩:=zcf b2;have m2:=zbY (e0.trans e1) (b:=w.heap.size+1) (by omega) (.slice ka s.cells.length kc) (.slice la s.undo.length lc) (.slice ma s.answers.length mc) (.slice na s.past.length nc);have hlt:w.heap.size+1 < w0.heap.size:=by rw [HSZ.o]; omega
 refine bodyPost_ret (by simp [results,Tryz.results31,go_sem,q0,q1,q2,q3]; rfl) rfl ?_;exact ⟨_,rfl,m2,_,_,_,_,rfl,((((HO.o.set hlt _ _).set hlt _ _).set hlt _ _).set hlt _ _).low (by rw [HSZ.o]; exact Nat.le_refl _)⟩

open Go.RowKit Go.Mk

theorem Tryz.infoBs:(Tryz.prog.info? 70).map (fun i=>(i.zero,i.size,i.bytes))=some (some (.slice none 0 0),1,24):=by kernel_rfl

theorem zcR {w:World} {base e size n:Nat} {v:Value} {xs:List Value} (h:w.ownsRow base e size v n xs):∃ ao cap,v=.slice ao n cap:=zao (Row.of_owns h)

open Go.RowKit Go.Mk

theorem zpD {w:World} {v:Value} {l:List (List UInt8)} (h:zaj 1 zcI w v l):∃ ao cap,v=.slice ao l.length cap/\l.length<=cap/\cap<=maxLen /\
  ∀ k x,l[k]?=some x->∃ b off bv,ao=some ⟨b,off,none⟩/\w.cell? ⟨b,off+k,none⟩=some bv/\za4 w bv x:=by
 obtain ⟨ao,cap,h1,h2,h3,-,h5⟩:=h.form (by decide)
 refine ⟨ao,cap,h1,h2,h3,fun k x hx=>?_⟩
 obtain ⟨b,off,c,e,-,⟨bv,rfl,hb⟩,hcell⟩:=h5 k x hx
 refine ⟨b,off,bv,e,?_,hb⟩
 have:=hcell 0 bv rfl
 rwa [Nat.mul_one,Nat.add_zero] at this

theorem zjv (v:Value) (xs:List UInt8) (w:World) (hv:za4 w v xs) (hr:xs.length<=140737488355328) :
  zaw Tryz.prog 82 #[v] w fun r w'=>w'.ownsRow w.heap.size 5 1 r xs.length (xs.map U):=by
 unfold zaw;obtain ⟨i0,hi,hz0,hz1,hz2⟩:=info_parts Tryz.infoByte;have hsz:(Tryz.prog.info? 5).map (·.size)=some 1:=by rw [hi]; simp [hz1]
 have hrow:Row w 1 v xs.length (xs.map U):=hv;clear hv;obtain ⟨hlen,ao,cap,rfl,h1,h2,h0,h3⟩:=hrow;unfold maxLen at h2;go_enter Tryz.func82,Tryz.ntmps82
 go_wp2_with (at_make; refine wpList_make_full _ rfl _ _ 70 rfl w.heap.size 5 i0 (.int .u8 0) 1 zpT hi hz0 hz1 .i64 .i64 _ _ xs.length rfl rfl rfl rfl (by rw [hz2]; omega) (by unfold maxLen; omega) (Nat.le_refl _) ?_; intro w1 hown hgrow)
 have he1:Ext w w1:=(Ext.refl w).grown hgrow (fun k hk=>by cases hk);obtain ⟨w2,hrun,hown2,hgrow2⟩:=zbn (P:=Tryz.prog) w1 70 3 5 1 zpT hsz w.heap.size w.heap.size xs.length _ (xs.map U) _ hown (Row.ext ⟨hlen,ao,cap,rfl,h1,h2,h0,h3⟩ he1) (zmI xs);have he2:Ext w w2:=he1.grown hgrow2 (fun k hk=>by cases hk; exact Nat.le_refl _);rw [hrun];clear hrun hown hgrow hgrow2 he1 h3;go_wp2
 go_ret
 exact ⟨_,rfl,he2,hown2⟩

theorem zny (v:Value) (xs:List (Int×Int)) (w:World) (hv:zar w v xs) (hr:xs.length * 16<=140737488355328) :
  zaw Tryz.prog 71 #[v] w fun r w'=>w'.ownsRow w.heap.size 52 2 r xs.length (zaC xs):=by
 unfold zaw;obtain ⟨i0,hi,hz0,hz1,hz2⟩:=info_parts Tryz.infoWrite;have hsz:(Tryz.prog.info? 52).map (·.size)=some 2:=by rw [hi]; simp [hz1]
 have hrow:Row w 2 v xs.length (zaC xs):=hv;clear hv;obtain ⟨hlen,ao,cap,rfl,h1,h2,h0,h3⟩:=hrow;unfold maxLen at h2;go_enter Tryz.func71,Tryz.ntmps71
 go_wp2_with (at_make; refine wpList_make_full _ rfl _ _ 26 rfl w.heap.size 52 i0 (.agg #[.int .i64 0,.int .i64 0]) 2 zj2 hi hz0 hz1 .i64 .i64 _ _ xs.length rfl rfl rfl rfl (by rw [hz2]; omega) (by unfold maxLen; omega) (Nat.le_refl _) ?_; intro w1 hown hgrow)
 have he1:Ext w w1:=(Ext.refl w).grown hgrow (fun k hk=>by cases hk);obtain ⟨w2,hrun,hown2,hgrow2⟩:=zbn (P:=Tryz.prog) w1 26 3 52 2 zj2 hsz w.heap.size w.heap.size xs.length _ (zaC xs) _ hown (Row.ext ⟨hlen,ao,cap,rfl,h1,h2,h0,h3⟩ he1) (zdf xs);have he2:Ext w w2:=he1.grown hgrow2 (fun k hk=>by cases hk; exact Nat.le_refl _);rw [hrun];clear hrun hown hgrow hgrow2 he1 h3;go_wp2
 go_ret
 exact ⟨_,rfl,he2,hown2⟩

def zcH (base:Nat) (w:World) (u:Value) (bl:List (List UInt8)):Prop:=∃ evs:List Value,w.ownsRow base 70 1 u bl.length evs/\∀ (i:Nat) (b:List UInt8),bl[i]?=some b->∃ ev,evs[i]?=some ev/\w.ownsRow base 5 1 ev b.length (b.map U)

theorem ziS (v:Value) (bl:List (List UInt8)) (w:World) (hv:zaj 1 zcI w v bl) (h1:bl.length * 24<=140737488355328) (h2:∀ b ∈ bl,b.length<=140737488355328) :
  zaw Tryz.prog 68 #[v] w fun r w'=>zcH w.heap.size w' r bl/\∃ g,r=.slice (some ⟨g,0,none⟩) bl.length bl.length:=by
 unfold zaw;obtain ⟨i0,hi,hz0,hz1,hz2⟩:=info_parts Tryz.infoBs;obtain ⟨ao,cap,rfl,g1,g2,g3⟩:=zpD hv;unfold maxLen at g2;have G3:=zhd g3;have H2:=zhd h2;clear hv g3 h2;go_enter Tryz.func68,Tryz.ntmps68
 go_wp2_with (at_make; refine wpList_make_full _ rfl _ _ 31 rfl w.heap.size 70 i0 (.slice none 0 0) 1 zul hi hz0 hz1 .i64 .i64 _ _ bl.length rfl rfl rfl rfl (by rw [hz2]; omega) (by unfold maxLen; omega) (Nat.le_refl _) ?_; intro w1 hown hgrow)
 have he1:Ext w w1:=(Ext.refl w).grown hgrow (fun k hk=>by cases hk);clear hgrow hi hz0 hz1 hz2;generalize hg:w.heap.size=g at *;have HG:=zhd hg;clear hg;have HO:=zhd hown;clear hown;go_wp2_with fail
 go_loopw [11] (fun i wr=>∃ (k:Nat) (evs:List Value),k<=bl.length/\i=I k/\wr.ownsRow g 70 1 (.slice (some ⟨g,0,none⟩) bl.length bl.length) bl.length evs/\(∀ (j:Nat) (b:List UInt8),j < k->bl[j]?=some b->∃ ev,evs[j]?=some ev/\wr.ownsRow g 5 1 ev b.length (b.map U))/\Ext w wr) (fun i _=>bl.length - (intOf i).toNat)
 case atStart=>exact ⟨0,_,Nat.zero_le _,rfl,HO.o,fun j b hj=>by omega,he1⟩
 case round =>
  obtain ⟨k,evs,hk,rfl,ho,hall,he⟩:=hrel;have HALL:=zhd hall;clear hall he1 HO;by_cases hlt:k < bl.length
  ·obtain ⟨x,hx⟩:∃ x,bl[k]?=some x:=⟨bl[k],List.getElem?_eq_getElem hlt⟩;obtain ⟨xb,xo,bv,rfl,hcell,hby⟩:=G3.o k x hx;have hxl:=H2.o x (List.mem_of_getElem? hx);have HX:=zhd hx;clear hx;replace hcell:=he.cell hcell;obtain ⟨ba,bc,rfl⟩:=zao hby;have HBY:=zhd (hby.ext he);clear hby;go_wp2_with fail
   refine (zjv _ x wr HBY.o hxl).to fun r w2 e2 hr=>?_;obtain ⟨ra,rc,rfl⟩:=zaD hr;have hown2:=zai ho e2;have hle:evs.length=bl.length:=by have:=ho.1; simpa using this
   have c5:w2.cell? ⟨g,k,none⟩=some (evs[k]'(by omega)):=by
    have q:=(Row.of_owns hown2);obtain ⟨_,ao2,cap2,eq2,_,_,_,q5⟩:=q;obtain ⟨b3,o3,e3,q6⟩:=q5 k _ (List.getElem?_eq_getElem (by omega));simp only [Value.slice.injEq] at eq2;rw [<- eq2.1] at e3;simp only [Option.some.injEq,Addr.mk.injEq,and_true] at e3;obtain ⟨rfl,rfl⟩:=e3;simpa using q6
   have f5:w2.frozen? ⟨g,k,none⟩=false:=hown2.frozenAt _;have hr2:=zhd (zaL hr (b2:=g) (by have:=he.size; have:=HG.o; omega));have he2:=he.trans e2;have E2:=zhd e2;clear hcell ho e2 he hr;go_wp2
   go_roundw
   case rel =>
    have hst:=hown2.stored k (.slice ra x.length rc);refine ⟨k+1,_,by omega,by go_num,hst.1,fun j b hj hb=>?_,he2.setCell (by rw [HG.o]; exact Nat.le_refl _) _⟩;by_cases hjk:j=k
    ·subst hjk;have hb2:bl[j]?=some b:=hb;rw [HX.o] at hb2;cases hb2
     refine ⟨_,List.getElem?_set_self (by omega),?_⟩;exact hr2.o.kept hst.2 (zdn hr2.o hown2 (by decide))
    ·obtain ⟨ev,h3,h4⟩:=HALL.o j b (by omega) hb;refine ⟨ev,by rw [List.getElem?_set_ne (fun e=>hjk e.symm)]; exact h3,?_⟩;have h5:=zai h4 E2.o;exact h5.kept hst.2 (zdn h5 hown2 (by decide))
   case measure=>simp [intOf]; omega
  ·have hkl:k=bl.length:=by omega
   subst hkl;go_wp2
   go_ret
   exact ⟨_,rfl,he,⟨evs,by rw [HG.o]; exact ho,fun i b hb=>by rw [HG.o]; exact HALL.o i b (List.getElem?_eq_some_iff.1 hb).1 hb⟩,_,rfl⟩

theorem zct {base e size n:Nat} {v:Value} {cs:List Value} {w:World} {B:Nat->Prop} (h:w.ownsRow base e size v n cs) (hB:∀ g,v.ownBlock=some g->B g):Rd B (fun w=>Row w size v n cs) w:=fun w2 h2=>by
 refine Row.heap (Row.of_owns h) (fun j u b off hj ⟨m,cap,e⟩=>?_)
 rcases h.2 with ⟨rfl,_⟩ | ⟨g,cap',cur,rfl,hb,hg,_⟩
 ·cases e
 ·simp at e
  obtain ⟨⟨rfl,_⟩,_⟩:=e
  exact h2 g (hB g rfl) (Array.getElem?_eq_some_iff.1 hg).1
theorem zcH.rd {base:Nat} {w:World} {u:Value} {bl:List (List UInt8)} {B:Nat->Prop} (h:zcH base w u bl) (hB:∀ g,base<=g->(∀ cs t,w.heap[g]?=some (.cells cs t (0,0))->t=70∨t=5)->B g):Rd B (fun w=>zaj 1 zcI w u bl) w:=by
 obtain ⟨evs,h1,h2⟩:=h
 have hl:evs.length=bl.length:=by have:=h1.1; simpa using this
 have hin:∀ {e size n:Nat} {v:Value} {cs:List Value},w.ownsRow base e size v n cs->(e=70∨e=5)->∀ g,v.ownBlock=some g->B g:=fun {e size n v cs} ho he g hg=>by
  refine hB g (ho.lt g hg).1 (fun cs' t' hc=>?_)
  by_cases hne:e=t'
  ·rw [<- hne]; exact he
  ·exact absurd hg (zaH ho hc hne)
 have r1:=zct h1 (hin h1 (.inl rfl))
 have r2:Rd B (fun w=>∀ (i:Nat) (b:List UInt8) (ev:Value),bl[i]?=some b->evs[i]?=some ev->za4 w ev b) w:=fun w2 hk i b ev hb hev=>by
  obtain ⟨ev',h3,h4⟩:=h2 i b hb
  rw [hev] at h3
  cases h3
  exact zct h4 (hin h4 (.inr rfl)) w2 hk
 refine (r1.and r2).imp fun w' hw=>⟨evs.map (fun e=>[e]),⟨by simp [hl],fun i c x hc hx=>?_⟩,?_⟩
 ·rw [List.getElem?_map] at hc
  cases he:evs[i]? with
  | none=>rw [he] at hc; cases hc
  | some ev =>
   rw [he] at hc
   simp at hc
   subst hc
   exact ⟨rfl,ev,rfl,hw.2 i x ev hx he⟩
 ·have hf:∀ l:List Value,(l.map fun e=>[e]).flatten=l:=fun l=>by
   induction l with
   | nil=>rfl
   | cons a l ih=>rw [List.map_cons,List.flatten_cons,ih]; rfl
  rw [hf]
  exact hw.1
theorem zcH.ext {base:Nat} {w w':World} {u:Value} {bl:List (List UInt8)} (h:zcH base w u bl) (he:Ext w w'):zcH base w' u bl:=by
 obtain ⟨evs,h1,h2⟩:=h
 refine ⟨evs,zai h1 he,fun i b hb=>?_⟩
 obtain ⟨ev,h3,h4⟩:=h2 i b hb
 exact ⟨ev,h3,zai h4 he⟩
theorem zcH.low {base b2:Nat} {w:World} {u:Value} {bl:List (List UInt8)} (h:zcH base w u bl) (hle:b2<=base):zcH b2 w u bl:=by
 obtain ⟨evs,h1,h2⟩:=h
 refine ⟨evs,zaL h1 hle,fun i b hb=>?_⟩
 obtain ⟨ev,h3,h4⟩:=h2 i b hb
 exact ⟨ev,h3,zaL h4 hle⟩
theorem zcH.kept {base:Nat} {w w':World} {u:Value} {bl:List (List UInt8)} (h:zcH base w u bl) {b:Nat} (hg:w.grownBy w' (some b)) {cs:Array Value} {t:TypeId} (hb:w.heap[b]?=some (.cells cs t (0,0))) (hne:(70:Nat)≠t) (hne2:(5:Nat)≠t):zcH base w' u bl:=by
 obtain ⟨evs,h1,h2⟩:=h
 refine ⟨evs,h1.kept hg (.inr (zaH h1 hb hne)),fun i b hb'=>?_⟩
 obtain ⟨ev,h3,h4⟩:=h2 i b hb'
 exact ⟨ev,h3,h4.kept hg (.inr (zaH h4 hb hne2))⟩

open Go.RowKit Go.Mk

open Go.RowKit Go.Mk

theorem Tryz.infoClient:(Tryz.prog.info? 49).map (fun i=>(i.zero,i.size,i.bytes))=some (some (.agg zC),6,96):=by kernel_rfl

end Go.Proofs.YtdmipnnfoolelagGreatDoor

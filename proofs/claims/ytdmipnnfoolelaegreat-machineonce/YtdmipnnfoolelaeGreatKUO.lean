/- Texts of the proof, merged: V1 N2. -/
import Derived.Test.YtdmipnnfoolelaeGreatKUA
import Derived.Test.YtdmipnnfoolelaeGreatKUN
import Derived.Test.YtdmipnnfoolelaeGreatKUJ
import Derived.Test.YtdmipnnfoolelaeGreatKUF
import Derived.Test.YtdmipnnfoolelaeGreatKUM
set_option maxHeartbeats 1000000
set_option maxRecDepth 100000

namespace Go.Proofs.YtdmipnnfoolelaeGreat
open Go.RowKit Go.Mk

theorem znN {w:World} {v:Value} {l:List (List UInt8)} (h:zar 1 zb0 w v l):∃ ao cap,v=.slice ao l.length cap/\l.length<=cap/\cap<=maxLen /\
  ∀ k x,l[k]?=some x->∃ b off bv,ao=some ⟨b,off,none⟩/\w.cell? ⟨b,off+k,none⟩=some bv/\zbb w bv x:=by
 obtain ⟨ao,cap,h1,h2,h3,-,h5⟩:=h.form (by decide)
 refine ⟨ao,cap,h1,h2,h3,fun k x hx=>?_⟩
 obtain ⟨b,off,c,e,-,⟨bv,rfl,hb⟩,hcell⟩:=h5 k x hx
 refine ⟨b,off,bv,e,?_,hb⟩
 have:=hcell 0 bv rfl
 rwa [Nat.mul_one,Nat.add_zero] at this

theorem zjG (v:Value) (xs:List UInt8) (w:World) (hv:zbb w v xs) (hr:xs.length<=140737488355328) :
  zaU Tryz.prog 67 #[v] w fun r w'=>w'.ownsRow w.heap.size 5 1 r xs.length (xs.map U):=by
 unfold zaU;obtain ⟨i0,hi,hz0,hz1,hz2⟩:=info_parts Tryz.infoByte;have hsz:(Tryz.prog.info? 5).map (·.size)=some 1:=by rw [hi]; simp [hz1]
 have hrow:Row w 1 v xs.length (xs.map U):=hv;clear hv;obtain ⟨hlen,ao,cap,rfl,h1,h2,h0,h3⟩:=hrow;unfold maxLen at h2;go_enter Tryz.func67,Tryz.ntmps67
 go_wp2_with (at_make; refine wpList_make_full _ rfl _ _ 78 rfl w.heap.size 5 i0 (.int .u8 0) 1 zhQ hi hz0 hz1 .i64 .i64 _ _ xs.length rfl rfl rfl rfl (by rw [hz2]; omega) (by unfold maxLen; omega) (Nat.le_refl _) ?_; intro w1 hown hgrow)
 have he1:Ext w w1:=(Ext.refl w).grown hgrow (fun k hk=>by cases hk);obtain ⟨w2,hrun,hown2,hgrow2⟩:=zbU (P:=Tryz.prog) w1 78 3 5 1 zhQ hsz w.heap.size w.heap.size xs.length _ (xs.map U) _ hown (Row.ext ⟨hlen,ao,cap,rfl,h1,h2,h0,h3⟩ he1) (zly xs);have he2:Ext w w2:=he1.grown hgrow2 (fun k hk=>by cases hk; exact Nat.le_refl _);rw [hrun];clear hrun hown hgrow hgrow2 he1 h3;go_wp2
 go_ret
 exact ⟨_,rfl,he2,hown2⟩

theorem zmi (v:Value) (xs:List (Int×Int)) (w:World) (hv:zax w v xs) (hr:xs.length * 16<=140737488355328) :
  zaU Tryz.prog 79 #[v] w fun r w'=>w'.ownsRow w.heap.size 91 2 r xs.length (zaA xs):=by
 unfold zaU;obtain ⟨i0,hi,hz0,hz1,hz2⟩:=info_parts Tryz.infoWrite;have hsz:(Tryz.prog.info? 91).map (·.size)=some 2:=by rw [hi]; simp [hz1]
 have hrow:Row w 2 v xs.length (zaA xs):=hv;clear hv;obtain ⟨hlen,ao,cap,rfl,h1,h2,h0,h3⟩:=hrow;unfold maxLen at h2;go_enter Tryz.func79,Tryz.ntmps79
 go_wp2_with (at_make; refine wpList_make_full _ rfl _ _ 27 rfl w.heap.size 91 i0 (.agg #[.int .i64 0,.int .i64 0]) 2 zfq hi hz0 hz1 .i64 .i64 _ _ xs.length rfl rfl rfl rfl (by rw [hz2]; omega) (by unfold maxLen; omega) (Nat.le_refl _) ?_; intro w1 hown hgrow)
 have he1:Ext w w1:=(Ext.refl w).grown hgrow (fun k hk=>by cases hk);obtain ⟨w2,hrun,hown2,hgrow2⟩:=zbU (P:=Tryz.prog) w1 27 3 91 2 zfq hsz w.heap.size w.heap.size xs.length _ (zaA xs) _ hown (Row.ext ⟨hlen,ao,cap,rfl,h1,h2,h0,h3⟩ he1) (zbz xs);have he2:Ext w w2:=he1.grown hgrow2 (fun k hk=>by cases hk; exact Nat.le_refl _);rw [hrun];clear hrun hown hgrow hgrow2 he1 h3;go_wp2
 go_ret
 exact ⟨_,rfl,he2,hown2⟩

def zc4 (base:Nat) (w:World) (u:Value) (bl:List (List UInt8)):Prop:=∃ evs:List Value,w.ownsRow base 78 1 u bl.length evs/\∀ (i:Nat) (b:List UInt8),bl[i]?=some b->∃ ev,evs[i]?=some ev/\w.ownsRow base 5 1 ev b.length (b.map U)

theorem zjb (v:Value) (bl:List (List UInt8)) (w:World) (hv:zar 1 zb0 w v bl) (h1:bl.length * 24<=140737488355328) (h2:∀ b ∈ bl,b.length<=140737488355328) :
  zaU Tryz.prog 40 #[v] w fun r w'=>zc4 w.heap.size w' r bl/\∃ g,r=.slice (some ⟨g,0,none⟩) bl.length bl.length:=by
 unfold zaU;obtain ⟨i0,hi,hz0,hz1,hz2⟩:=info_parts Tryz.infoBs;obtain ⟨ao,cap,rfl,g1,g2,g3⟩:=znN hv;unfold maxLen at g2;have G3:=zhd g3;have H2:=zhd h2;clear hv g3 h2;go_enter Tryz.func40,Tryz.ntmps40
 go_wp2_with (at_make; refine wpList_make_full _ rfl _ _ 32 rfl w.heap.size 78 i0 (.slice none 0 0) 1 znc hi hz0 hz1 .i64 .i64 _ _ bl.length rfl rfl rfl rfl (by rw [hz2]; omega) (by unfold maxLen; omega) (Nat.le_refl _) ?_; intro w1 hown hgrow)
 have he1:Ext w w1:=(Ext.refl w).grown hgrow (fun k hk=>by cases hk);clear hgrow hi hz0 hz1 hz2;generalize hg:w.heap.size=g at *;have HG:=zhd hg;clear hg;have HO:=zhd hown;clear hown;go_wp2_with fail
 go_loopw [11] (fun i wr=>∃ (k:Nat) (evs:List Value),k<=bl.length/\i=I k/\wr.ownsRow g 78 1 (.slice (some ⟨g,0,none⟩) bl.length bl.length) bl.length evs/\(∀ (j:Nat) (b:List UInt8),j < k->bl[j]?=some b->∃ ev,evs[j]?=some ev/\wr.ownsRow g 5 1 ev b.length (b.map U))/\Ext w wr) (fun i _=>bl.length - (intOf i).toNat)
 case atStart=>exact ⟨0,_,Nat.zero_le _,rfl,HO.o,fun j b hj=>by omega,he1⟩
 case round =>
  obtain ⟨k,evs,hk,rfl,ho,hall,he⟩:=hrel;have HALL:=zhd hall;clear hall he1 HO;by_cases hlt:k < bl.length
  ·obtain ⟨x,hx⟩:∃ x,bl[k]?=some x:=⟨bl[k],List.getElem?_eq_getElem hlt⟩;obtain ⟨xb,xo,bv,rfl,hcell,hby⟩:=G3.o k x hx;have hxl:=H2.o x (List.mem_of_getElem? hx);have HX:=zhd hx;clear hx;replace hcell:=he.cell hcell;obtain ⟨ba,bc,rfl⟩:=zao hby;have HBY:=zhd (hby.ext he);clear hby;go_wp2_with fail
   refine (zjG _ x wr HBY.o hxl).to fun r w2 e2 hr=>?_;obtain ⟨ra,rc,rfl⟩:=za0 hr;have hown2:=zak ho e2;have hle:evs.length=bl.length:=by have:=ho.1; simpa using this
   have c5:w2.cell? ⟨g,k,none⟩=some (evs[k]'(by omega)):=by
    have q:=(Row.of_owns hown2);obtain ⟨_,ao2,cap2,eq2,_,_,_,q5⟩:=q;obtain ⟨b3,o3,e3,q6⟩:=q5 k _ (List.getElem?_eq_getElem (by omega));simp only [Value.slice.injEq] at eq2;rw [<- eq2.1] at e3;simp only [Option.some.injEq,Addr.mk.injEq,and_true] at e3;obtain ⟨rfl,rfl⟩:=e3;simpa using q6
   have f5:w2.frozen? ⟨g,k,none⟩=false:=hown2.frozenAt _;have hr2:=zhd (zbe hr (b2:=g) (by have:=he.size; have:=HG.o; omega));have he2:=he.trans e2;have E2:=zhd e2;clear hcell ho e2 he hr;go_wp2
   go_roundw
   case rel =>
    have hst:=hown2.stored k (.slice ra x.length rc);refine ⟨k+1,_,by omega,by go_num,hst.1,fun j b hj hb=>?_,he2.setCell (by rw [HG.o]; exact Nat.le_refl _) _⟩;by_cases hjk:j=k
    ·subst hjk;have hb2:bl[j]?=some b:=hb;rw [HX.o] at hb2;cases hb2
     refine ⟨_,List.getElem?_set_self (by omega),?_⟩;exact hr2.o.kept hst.2 (zdJ hr2.o hown2 (by decide))
    ·obtain ⟨ev,h3,h4⟩:=HALL.o j b (by omega) hb;refine ⟨ev,by rw [List.getElem?_set_ne (fun e=>hjk e.symm)]; exact h3,?_⟩;have h5:=zak h4 E2.o;exact h5.kept hst.2 (zdJ h5 hown2 (by decide))
   case measure=>simp [intOf]; omega
  ·have hkl:k=bl.length:=by omega
   subst hkl;go_wp2
   go_ret
   exact ⟨_,rfl,he,⟨evs,by rw [HG.o]; exact ho,fun i b hb=>by rw [HG.o]; exact HALL.o i b (List.getElem?_eq_some_iff.1 hb).1 hb⟩,_,rfl⟩

theorem zcV {base e size n:Nat} {v:Value} {cs:List Value} {w:World} {B:Nat->Prop} (h:w.ownsRow base e size v n cs) (hB:∀ g,v.ownBlock=some g->B g):Rd B (fun w=>Row w size v n cs) w:=fun w2 h2=>by
 refine Row.heap (Row.of_owns h) (fun j u b off hj ⟨m,cap,e⟩=>?_)
 rcases h.2 with ⟨rfl,_⟩ | ⟨g,cap',cur,rfl,hb,hg,_⟩
 ·cases e
 ·simp at e
  obtain ⟨⟨rfl,_⟩,_⟩:=e
  exact h2 g (hB g rfl) (Array.getElem?_eq_some_iff.1 hg).1
theorem zc4.rd {base:Nat} {w:World} {u:Value} {bl:List (List UInt8)} {B:Nat->Prop} (h:zc4 base w u bl) (hB:∀ g,base<=g->(∀ cs t,w.heap[g]?=some (.cells cs t (0,0))->t=78∨t=5)->B g):Rd B (fun w=>zar 1 zb0 w u bl) w:=by
 obtain ⟨evs,h1,h2⟩:=h
 have hl:evs.length=bl.length:=by have:=h1.1; simpa using this
 have hin:∀ {e size n:Nat} {v:Value} {cs:List Value},w.ownsRow base e size v n cs->(e=78∨e=5)->∀ g,v.ownBlock=some g->B g:=fun {e size n v cs} ho he g hg=>by
  refine hB g (ho.lt g hg).1 (fun cs' t' hc=>?_)
  by_cases hne:e=t'
  ·rw [<- hne]; exact he
  ·exact absurd hg (za5 ho hc hne)
 have r1:=zcV h1 (hin h1 (.inl rfl))
 have r2:Rd B (fun w=>∀ (i:Nat) (b:List UInt8) (ev:Value),bl[i]?=some b->evs[i]?=some ev->zbb w ev b) w:=fun w2 hk i b ev hb hev=>by
  obtain ⟨ev',h3,h4⟩:=h2 i b hb
  rw [hev] at h3
  cases h3
  exact zcV h4 (hin h4 (.inr rfl)) w2 hk
 refine (r1.and r2).imp fun w' hw=>⟨evs.map (fun e=>[e]),⟨by simp [hl],fun i c x hc hx=>?_⟩,?_⟩
 ·rw [List.getElem?_map] at hc
  cases he:evs[i]? with
  | none=>rw [he] at hc; cases hc
  | some ev =>
   rw [he] at hc
   simp at hc
   subst hc
   exact ⟨rfl,ev,rfl,hw.2 i x ev hx he⟩
 ·have hf:∀ l:List Value,(l.map fun e=>[e]).flatten=l:=fun l=>by
   induction l with
   | nil=>rfl
   | cons a l ih=>rw [List.map_cons,List.flatten_cons,ih]; rfl
  rw [hf]
  exact hw.1
theorem zc4.ext {base:Nat} {w w':World} {u:Value} {bl:List (List UInt8)} (h:zc4 base w u bl) (he:Ext w w'):zc4 base w' u bl:=by
 obtain ⟨evs,h1,h2⟩:=h
 refine ⟨evs,zak h1 he,fun i b hb=>?_⟩
 obtain ⟨ev,h3,h4⟩:=h2 i b hb
 exact ⟨ev,h3,zak h4 he⟩
theorem zc4.low {base b2:Nat} {w:World} {u:Value} {bl:List (List UInt8)} (h:zc4 base w u bl) (hle:b2<=base):zc4 b2 w u bl:=by
 obtain ⟨evs,h1,h2⟩:=h
 refine ⟨evs,zbe h1 hle,fun i b hb=>?_⟩
 obtain ⟨ev,h3,h4⟩:=h2 i b hb
 exact ⟨ev,h3,zbe h4 hle⟩
theorem zc4.kept {base:Nat} {w w':World} {u:Value} {bl:List (List UInt8)} (h:zc4 base w u bl) {b:Nat} (hg:w.grownBy w' (some b)) {cs:Array Value} {t:TypeId} (hb:w.heap[b]?=some (.cells cs t (0,0))) (hne:(78:Nat)≠t) (hne2:(5:Nat)≠t):zc4 base w' u bl:=by
 obtain ⟨evs,h1,h2⟩:=h
 refine ⟨evs,h1.kept hg (.inr (za5 h1 hb hne)),fun i b hb'=>?_⟩
 obtain ⟨ev,h3,h4⟩:=h2 i b hb'
 exact ⟨ev,h3,h4.kept hg (.inr (za5 h4 hb hne2))⟩

open Go.RowKit Go.Mk

theorem zjZ (m:Mc) (c u a p box plan cl:Value) (w:World) (A:Nat->Prop) (h:RdM A w m c u a p box plan cl) (hf:0<=m.falls) :
  zaQ Tryz.prog 33 #[.agg (zaW m c u a p box plan cl).toArray] w A (fun r w'=>zgP zd1 (zdG m).1 (zdG m).2 r w'):=by
 unfold zaQ;obtain ⟨ca,cc,ua,uc,aa,ac,pa,pc,xa,xc,la,lc,ka,kc,rfl,rfl,rfl,rfl,rfl,rfl,rfl⟩:=h.slices;obtain ⟨⟨sc,su,sa,sp⟩,⟨gen,bl,busy,⟨nc,nt,⟨nk,na,no,nn⟩⟩,pl,⟨se,sn⟩⟩,up,pause,falls,cls⟩:=m;simp only [zaW] at *;have H:=zhd h;clear h;have EW:=zhd (Ext.refl w);obtain ⟨B,hB⟩:=zdh A w.heap.size 2;have HK:=zhd hB;clear hB;replace H:=zhd (H.o.widen HK.o.1);cases up
 case false =>
  have hX:zdG ⟨⟨sc,su,sa,sp⟩,⟨gen,bl,busy,⟨nc,nt,⟨nk,na,no,nn⟩⟩,pl,⟨se,sn⟩⟩,false,pause,falls,cls⟩=(⟨⟨sc,su,sa,sp⟩,⟨gen,bl,busy,⟨nc,nt,⟨nk,na,no,nn⟩⟩,pl,⟨se,sn⟩⟩,false,pause,falls,cls⟩,11):=rfl;rw [hX];clear hX;go_enter Tryz.func33,Tryz.ntmps33
  go_wp2_with (with_reducible refine zT ?_)
  refine zaj rfl 44 (.tmp 0) rfl #[.slice ca sc.length cc,.slice ua su.length uc,.slice aa sa.length ac,.slice pa sp.length pc,I gen,.slice xa bl.length xc,.bool busy,I nc,I nt,I nk,I na,I no,I nn,.slice la pl.length lc,I se,I sn,.bool false,I pause,I falls,.slice ka cls.length kc] rfl (fun b0 w1_ M1=>?_);have zab:=zmb M1;go_wp2_with (with_reducible refine zT ?_)
  refine zae rfl 44 zM (by kernel_rfl) (fun b1 w2_ M2=>?_);have zad:=zmb M2;have zaY:=zA0 M1;have zaZ:=zA1 zaY M1 M2;have zau:=znb HK zaZ (by decide);have za4:=zob zaZ;replace zab:=zmo M2 zab;have c16:=zaa (i:=16) zab.o rfl;have c18:=zaa (i:=18) zab.o rfl;go_wp2_with (with_reducible refine zT ?_)
  clear c16 c18;refine zah rfl 44 (.tmp 1) rfl b0 rfl zab za3 zaO (fun v7 H_v7=>?_);go_wp2_with (with_reducible refine zT ?_)
  refine zac rfl 44 (.tmp 2) (.tmp 7) rfl b1 rfl _ (zcv H_v7) zad rfl zaO rfl (fun w3_ M3=>?_);replace zad:=zwb M3;go_wp2
  have z0:=zaq (P:=Tryz.prog) 44 zad.o za3 (by kernel_rfl);refine bodyPost_ret (by simp [results,Tryz.results33,asAddr,z0]; rfl) rfl ?_;replace H:=zHw M3 (zhd ((zhd (H.o.ext M1.o.ext)).o.ext M2.o.ext)) zau;replace EW:=zwe M3 (zet (zet EW M1) M2) za4;exact ⟨_,rfl,EW.o,Rd.widen (A:=B) (zbL (RdM.mc (m:=⟨⟨sc,su,sa,sp⟩,⟨gen,bl,busy,⟨nc,nt,⟨nk,na,no,nn⟩⟩,pl,⟨se,sn⟩⟩,false,pause,falls,cls⟩) H.o)) (fun k _ h=>HK.o.2.2.2 k h)⟩
 by_cases h6:6<=falls
 case pos =>
  have hX:zdG ⟨⟨sc,su,sa,sp⟩,⟨gen,bl,busy,⟨nc,nt,⟨nk,na,no,nn⟩⟩,pl,⟨se,sn⟩⟩,true,pause,falls,cls⟩=(⟨⟨sc,su,sa,sp⟩,⟨gen,bl,busy,⟨nc,nt,⟨nk,na,no,nn⟩⟩,pl,⟨se,sn⟩⟩,true,pause,falls,cls⟩,5):=by
   show (if ¬ (true=true) then _ else if 6<=falls then _ else _)=_
   rw [if_neg (by simp),if_pos h6]
  rw [hX];have h5:(5:Int) < falls:=by omega
  clear hX h6;go_enter Tryz.func33,Tryz.ntmps33
  go_wp2_with (with_reducible refine zT ?_)
  refine zaj rfl 44 (.tmp 0) rfl #[.slice ca sc.length cc,.slice ua su.length uc,.slice aa sa.length ac,.slice pa sp.length pc,I gen,.slice xa bl.length xc,.bool busy,I nc,I nt,I nk,I na,I no,I nn,.slice la pl.length lc,I se,I sn,.bool true,I pause,I falls,.slice ka cls.length kc] rfl (fun b0 w1_ M1=>?_);have zab:=zmb M1;go_wp2_with (with_reducible refine zT ?_)
  refine zae rfl 44 zM (by kernel_rfl) (fun b1 w2_ M2=>?_);have zad:=zmb M2;have zaY:=zA0 M1;have zaZ:=zA1 zaY M1 M2;have zau:=znb HK zaZ (by decide);have za4:=zob zaZ;replace zab:=zmo M2 zab;have c16:=zaa (i:=16) zab.o rfl;have c18:=zaa (i:=18) zab.o rfl;go_wp2_with (with_reducible refine zT ?_)
  clear c16 c18;refine zah rfl 44 (.tmp 1) rfl b0 rfl zab za3 zaO (fun v11 H_v11=>?_);go_wp2_with (with_reducible refine zT ?_)
  refine zac rfl 44 (.tmp 2) (.tmp 11) rfl b1 rfl _ (zcv H_v11) zad rfl zaO rfl (fun w3_ M3=>?_);replace zad:=zwb M3;go_wp2
  have z0:=zaq (P:=Tryz.prog) 44 zad.o za3 (by kernel_rfl);refine bodyPost_ret (by simp [results,Tryz.results33,asAddr,z0]; rfl) rfl ?_;replace H:=zHw M3 (zhd ((zhd (H.o.ext M1.o.ext)).o.ext M2.o.ext)) zau;replace EW:=zwe M3 (zet (zet EW M1) M2) za4;exact ⟨_,rfl,EW.o,Rd.widen (A:=B) (zbL (RdM.mc (m:=⟨⟨sc,su,sa,sp⟩,⟨gen,bl,busy,⟨nc,nt,⟨nk,na,no,nn⟩⟩,pl,⟨se,sn⟩⟩,true,pause,falls,cls⟩) H.o)) (fun k _ h=>HK.o.2.2.2 k h)⟩
 obtain ⟨f,rfl⟩:∃ f:Nat,falls=(f:Int):=⟨falls.toNat,by omega⟩;obtain ⟨pv,hpv⟩:∃ x,pauseOf ((f:Int)+1)=x:=⟨_,rfl⟩
 have htab:(#[I 1,I 1,I 2,I 3,I 3,I 3,I 3]:Array Value)[f+1]?=some (I pv):=by
  subst hpv;have hc:f=0∨f=1∨f=2∨f=3∨f=4∨f=5:=by omega
  rcases hc with rfl | rfl | rfl | rfl | rfl | rfl <;> rfl
 have HTAB:=zhd htab
 have hX:zdG ⟨⟨sc,su,sa,sp⟩,⟨gen,bl,busy,⟨nc,nt,⟨nk,na,no,nn⟩⟩,pl,⟨se,sn⟩⟩,true,pause,(f:Int),cls⟩=(⟨⟨sc,su,sa,sp⟩,zck gen [],false,pv,((f:Int)+1),cls⟩,0):=by
  show (if ¬ (true=true) then _ else if 6<=(f:Int) then _ else _)=_
  rw [if_neg (by simp),if_neg h6,hpv]
 rw [hX];have h5:(f:Int) < 6:=by omega
 have hf0:(0:Int)<=(f:Int):=hf;clear hX htab hpv h6 hf;go_enter Tryz.func33,Tryz.ntmps33
 go_wp2_with (with_reducible refine zT ?_)
 refine zaj rfl 44 (.tmp 0) rfl #[.slice ca sc.length cc,.slice ua su.length uc,.slice aa sa.length ac,.slice pa sp.length pc,I gen,.slice xa bl.length xc,.bool busy,I nc,I nt,I nk,I na,I no,I nn,.slice la pl.length lc,I se,I sn,.bool true,I pause,I (f:Int),.slice ka cls.length kc] rfl (fun b0 w1_ M1=>?_);have zab:=zmb M1;go_wp2_with (with_reducible refine zT ?_)
 refine zae rfl 44 zM (by kernel_rfl) (fun b1 w2_ M2=>?_);have zay:=zld zab M2;have zad:=zmb M2;have zaY:=zA0 M1;have zaF:=znb HK zaY (by decide);have zbr:=zob zaY;have zaZ:=zA1 zaY M1 M2;have zau:=znb HK zaZ (by decide);have za4:=zob zaZ;replace zab:=zmo M2 zab;have c16:=zaa (i:=16) zab.o rfl;have c18:=zaa (i:=18) zab.o rfl;go_wp2_with (with_reducible refine zT ?_)
 clear c16 c18;refine zam rfl 3 (.tmp 15) (.tmp 14) rfl b0 18 rfl [I ((f:Int)+1)] (rfl) zab rfl zi3 rfl [.slice ca sc.length cc,.slice ua su.length uc,.slice aa sa.length ac,.slice pa sp.length pc,I gen,.slice xa bl.length xc,.bool busy,I nc,I nt,I nk,I na,I no,I nn,.slice la pl.length lc,I se,I sn,.bool true,I pause,I ((f:Int)+1),.slice ka cls.length kc] rfl (fun w3_ M3=>?_);replace zab:=zwb M3;go_wp2_with (with_reducible refine zT ?_)
 refine zam rfl 4 (.tmp 16) (.const (.bool false)) rfl b0 16 rfl [.bool false] (rfl) zab rfl zi4 rfl [.slice ca sc.length cc,.slice ua su.length uc,.slice aa sa.length ac,.slice pa sp.length pc,I gen,.slice xa bl.length xc,.bool busy,I nc,I nt,I nk,I na,I no,I nn,.slice la pl.length lc,I se,I sn,.bool false,I pause,I ((f:Int)+1),.slice ka cls.length kc] rfl (fun w4_ M4=>?_);replace zab:=zwb M4;go_wp2_with (with_reducible refine zT ?_)
 unfold Hid;refine zcU rfl 3 7 #[I 1,I 1,I 2,I 3,I 3,I 3,I 3] (by kernel_rfl) (fun b2 w5_ M5=>?_);replace zad:=zwg M4 (zwg M3 zad zay) zay;have zal:=zmb M5;have c2:=zaa (i:=f+1) zal.o HTAB.o;have hi1:(f:Int)+1 < 7:=by omega
 have hi0:(0:Int)<=(f:Int)+1:=by omega
 replace zab:=zmo M5 zab;have c18:=zaa (i:=18) zab.o rfl;go_wp2_with (with_reducible refine zT ?_)
 clear c18 c2 hi1 hi0;refine zam rfl 3 (.tmp 22) (.tmp 21) rfl b0 17 rfl [I pv] (rfl) zab rfl zi3 rfl [.slice ca sc.length cc,.slice ua su.length uc,.slice aa sa.length ac,.slice pa sp.length pc,I gen,.slice xa bl.length xc,.bool busy,I nc,I nt,I nk,I na,I no,I nn,.slice la pl.length lc,I se,I sn,.bool false,I pv,I ((f:Int)+1),.slice ka cls.length kc] rfl (fun w6_ M6=>?_);replace zab:=zwb M6;have c4:=zaa (i:=4) zab.o rfl;go_wp2_with (with_reducible refine zT ?_)
 clear c4;refine za6 rfl 41 #[(0,.tmp 25)] rfl #[I gen,.slice none 0 0,.bool false,I 0,I 0,I 0,I 0,I 0,I 0,.slice none 0 0,I 0,I 0] (by kernel_rfl) (fun v26 H_v26=>?_);go_wp2_with (with_reducible refine zT ?_)
 refine zam rfl 41 (.tmp 27) (.tmp 26) rfl b0 4 rfl _ (zcv H_v26) zab rfl zc0 rfl [.slice ca sc.length cc,.slice ua su.length uc,.slice aa sa.length ac,.slice pa sp.length pc,I gen,.slice none 0 0,.bool false,I 0,I 0,I 0,I 0,I 0,I 0,.slice none 0 0,I 0,I 0,.bool false,I pv,I ((f:Int)+1),.slice ka cls.length kc] rfl (fun w7_ M7=>?_);replace zab:=zwb M7;go_wp2_with (with_reducible refine zT ?_)
 refine zah rfl 44 (.tmp 1) rfl b0 rfl zab za3 zaO (fun v28 H_v28=>?_);go_wp2_with (with_reducible refine zT ?_)
 replace zad:=zwg M7 (zwg M6 (zmo M5 zad) zay) zay;refine zac rfl 44 (.tmp 2) (.tmp 28) rfl b1 rfl _ (zcv H_v28) zad rfl zaO rfl (fun w8_ M8=>?_);replace zad:=zwb M8;go_wp2
 have z0:=zaq (P:=Tryz.prog) 44 zad.o za3 (by kernel_rfl);refine bodyPost_ret (by simp [results,Tryz.results33,asAddr,z0]; rfl) rfl ?_;replace H:=zHw M8 (zHw M7 (zHw M6 (zhd ((zHw M4 (zHw M3 (zhd ((zhd (H.o.ext M1.o.ext)).o.ext M2.o.ext)) zaF) zaF).o.ext M5.o.ext)) zaF) zaF) zau;replace EW:=zwe M8 (zwe M7 (zwe M6 (zet (zwe M4 (zwe M3 (zet (zet EW M1) M2) zbr) zbr) M5) zbr) zbr) za4;exact ⟨_,rfl,EW.o,Rd.widen (A:=B) (zbL (RdM.mc (m:=⟨⟨sc,su,sa,sp⟩,zck gen [],false,pv,((f:Int)+1),cls⟩) ⟨H.o.cells,H.o.undo,H.o.answers,H.o.past,Rd.all fun w=>zar.nil w,Rd.all fun w=>zby w,H.o.clients⟩)) (fun k _ h=>HK.o.2.2.2 k h)⟩

theorem zj7 (m:Mc) (c u a p box plan cl:Value) (w:World) (A:Nat->Prop) (h:RdM A w m c u a p box plan cl) (hr:m.store.cells.length * 8<=140737488355328) (hg:0<=m.server.gen/\m.server.gen<=1000000) (hpz:0<=m.pause/\m.pause<=1000000) :
  zaQ Tryz.prog 34 #[.agg (zaW m c u a p box plan cl).toArray] w A (fun r w'=>Agg zd1 (zdS m) r w'):=by
 unfold zaQ;obtain ⟨ca,cc,ua,uc,aa,ac,pa,pc,xa,xc,la,lc,ka,kc,rfl,rfl,rfl,rfl,rfl,rfl,rfl⟩:=h.slices;obtain ⟨⟨sc,su,sa,sp⟩,⟨gen,bl,busy,⟨nc,nt,⟨nk,na,no,nn⟩⟩,pl,⟨se,sn⟩⟩,up,pause,falls,cls⟩:=m;simp only [zaW] at *;have H:=zhd h;clear h;have EW:=zhd (Ext.refl w);obtain ⟨B,hB⟩:=zdh A w.heap.size 2;have HK:=zhd hB;clear hB;replace H:=zhd (H.o.widen HK.o.1);cases up
 case true =>
  have hX:zdS ⟨⟨sc,su,sa,sp⟩,⟨gen,bl,busy,⟨nc,nt,⟨nk,na,no,nn⟩⟩,pl,⟨se,sn⟩⟩,true,pause,falls,cls⟩=⟨⟨sc,su,sa,sp⟩,⟨gen,bl,busy,⟨nc,nt,⟨nk,na,no,nn⟩⟩,pl,⟨se,sn⟩⟩,true,pause,falls,cls⟩:=rfl;rw [hX];clear hX;go_enter Tryz.func34,Tryz.ntmps34
  go_wp2_with (with_reducible refine zT ?_)
  refine zaj rfl 44 (.tmp 0) rfl #[.slice ca sc.length cc,.slice ua su.length uc,.slice aa sa.length ac,.slice pa sp.length pc,I gen,.slice xa bl.length xc,.bool busy,I nc,I nt,I nk,I na,I no,I nn,.slice la pl.length lc,I se,I sn,.bool true,I pause,I falls,.slice ka cls.length kc] rfl (fun b0 w1_ M1=>?_);have zab:=zmb M1;go_wp2_with (with_reducible refine zT ?_)
  refine zae rfl 44 zM (by kernel_rfl) (fun b1 w2_ M2=>?_);have zad:=zmb M2;have zaY:=zA0 M1;have zaZ:=zA1 zaY M1 M2;have zau:=znb HK zaZ (by decide);have za4:=zob zaZ;replace zab:=zmo M2 zab;have c16:=zaa (i:=16) zab.o rfl;go_wp2_with (with_reducible refine zT ?_)
  clear c16;refine zah rfl 44 (.tmp 1) rfl b0 rfl zab za3 zaO (fun v26 H_v26=>?_);go_wp2_with (with_reducible refine zT ?_)
  refine zac rfl 44 (.tmp 2) (.tmp 26) rfl b1 rfl _ (zcv H_v26) zad rfl zaO rfl (fun w3_ M3=>?_);replace zad:=zwb M3;go_wp2
  have z0:=zaq (P:=Tryz.prog) 44 zad.o za3 (by kernel_rfl);refine bodyPost_ret (by simp [results,Tryz.results34,asAddr,z0,Act.put]; rfl) rfl ?_;replace H:=zHw M3 (zhd ((zhd (H.o.ext M1.o.ext)).o.ext M2.o.ext)) zau;replace EW:=zwe M3 (zet (zet EW M1) M2) za4;exact ⟨_,rfl,EW.o,Rd.widen (A:=B) (zbT (RdM.mc (m:=⟨⟨sc,su,sa,sp⟩,⟨gen,bl,busy,⟨nc,nt,⟨nk,na,no,nn⟩⟩,pl,⟨se,sn⟩⟩,true,pause,falls,cls⟩) H.o)) (fun k _ h=>HK.o.2.2.2 k h)⟩
 by_cases hp:1 < pause
 case pos =>
  have hX:zdS ⟨⟨sc,su,sa,sp⟩,⟨gen,bl,busy,⟨nc,nt,⟨nk,na,no,nn⟩⟩,pl,⟨se,sn⟩⟩,false,pause,falls,cls⟩=⟨⟨sc,su,sa,sp⟩,⟨gen,bl,busy,⟨nc,nt,⟨nk,na,no,nn⟩⟩,pl,⟨se,sn⟩⟩,false,(pause - 1),falls,cls⟩:=by
   show (if (false=true) then _ else if 1 < pause then _ else _)=_
   rw [if_neg (by simp),if_pos hp]
  rw [hX];clear hX;go_enter Tryz.func34,Tryz.ntmps34
  go_wp2_with (with_reducible refine zT ?_)
  refine zaj rfl 44 (.tmp 0) rfl #[.slice ca sc.length cc,.slice ua su.length uc,.slice aa sa.length ac,.slice pa sp.length pc,I gen,.slice xa bl.length xc,.bool busy,I nc,I nt,I nk,I na,I no,I nn,.slice la pl.length lc,I se,I sn,.bool false,I pause,I falls,.slice ka cls.length kc] rfl (fun b0 w1_ M1=>?_);have zab:=zmb M1;go_wp2_with (with_reducible refine zT ?_)
  refine zae rfl 44 zM (by kernel_rfl) (fun b1 w2_ M2=>?_);have zay:=zld zab M2;have zad:=zmb M2;have zaY:=zA0 M1;have zaF:=znb HK zaY (by decide);have zbr:=zob zaY;have zaZ:=zA1 zaY M1 M2;have zau:=znb HK zaZ (by decide);have za4:=zob zaZ;replace zab:=zmo M2 zab;have c16:=zaa (i:=16) zab.o rfl;have c17:=zaa (i:=17) zab.o rfl;go_wp2_with (with_reducible refine zT ?_)
  clear c16 c17;refine zam rfl 3 (.tmp 25) (.tmp 24) rfl b0 17 rfl [I (pause - 1)] (rfl) zab rfl zi3 rfl [.slice ca sc.length cc,.slice ua su.length uc,.slice aa sa.length ac,.slice pa sp.length pc,I gen,.slice xa bl.length xc,.bool busy,I nc,I nt,I nk,I na,I no,I nn,.slice la pl.length lc,I se,I sn,.bool false,I (pause - 1),I falls,.slice ka cls.length kc] rfl (fun w3_ M3=>?_);replace zab:=zwb M3;go_wp2_with (with_reducible refine zT ?_)
  refine zah rfl 44 (.tmp 1) rfl b0 rfl zab za3 zaO (fun v26 H_v26=>?_);go_wp2_with (with_reducible refine zT ?_)
  replace zad:=zwg M3 zad zay;refine zac rfl 44 (.tmp 2) (.tmp 26) rfl b1 rfl _ (zcv H_v26) zad rfl zaO rfl (fun w4_ M4=>?_);replace zad:=zwb M4;go_wp2
  have z0:=zaq (P:=Tryz.prog) 44 zad.o za3 (by kernel_rfl);refine bodyPost_ret (by simp [results,Tryz.results34,asAddr,z0,Act.put]; rfl) rfl ?_;replace H:=zHw M4 (zHw M3 (zhd ((zhd (H.o.ext M1.o.ext)).o.ext M2.o.ext)) zaF) zau;replace EW:=zwe M4 (zwe M3 (zet (zet EW M1) M2) zbr) za4;exact ⟨_,rfl,EW.o,Rd.widen (A:=B) (zbT (RdM.mc (m:=⟨⟨sc,su,sa,sp⟩,⟨gen,bl,busy,⟨nc,nt,⟨nk,na,no,nn⟩⟩,pl,⟨se,sn⟩⟩,false,(pause - 1),falls,cls⟩) ⟨H.o.cells,H.o.undo,H.o.answers,H.o.past,H.o.box,H.o.plan,H.o.clients⟩)) (fun k _ h=>HK.o.2.2.2 k h)⟩
 have hX:zdS ⟨⟨sc,su,sa,sp⟩,⟨gen,bl,busy,⟨nc,nt,⟨nk,na,no,nn⟩⟩,pl,⟨se,sn⟩⟩,false,pause,falls,cls⟩=⟨zbm ⟨sc,su,sa,sp⟩,zck (gen+1) [],true,0,falls,cls⟩:=by
  show (if (false=true) then _ else if 1 < pause then _ else _)=_
  rw [if_neg (by simp),if_neg hp]
 rw [hX];clear hX;go_enter Tryz.func34,Tryz.ntmps34
 go_wp2_with (with_reducible refine zT ?_)
 refine zaj rfl 44 (.tmp 0) rfl #[.slice ca sc.length cc,.slice ua su.length uc,.slice aa sa.length ac,.slice pa sp.length pc,I gen,.slice xa bl.length xc,.bool busy,I nc,I nt,I nk,I na,I no,I nn,.slice la pl.length lc,I se,I sn,.bool false,I pause,I falls,.slice ka cls.length kc] rfl (fun b0 w1_ M1=>?_);have zab:=zmb M1;go_wp2_with (with_reducible refine zT ?_)
 refine zae rfl 44 zM (by kernel_rfl) (fun b1 w2_ M2=>?_);have zay:=zld zab M2;have zad:=zmb M2;have zaY:=zA0 M1;have zaF:=znb HK zaY (by decide);have zbr:=zob zaY;have zaZ:=zA1 zaY M1 M2;have zau:=znb HK zaZ (by decide);have za4:=zob zaZ;replace zab:=zmo M2 zab;have c16:=zaa (i:=16) zab.o rfl;have c17:=zaa (i:=17) zab.o rfl;go_wp2_with (with_reducible refine zT ?_)
 clear c16 c17;refine zam rfl 4 (.tmp 3) (.const (.bool true)) rfl b0 16 rfl [.bool true] (rfl) zab rfl zi4 rfl [.slice ca sc.length cc,.slice ua su.length uc,.slice aa sa.length ac,.slice pa sp.length pc,I gen,.slice xa bl.length xc,.bool busy,I nc,I nt,I nk,I na,I no,I nn,.slice la pl.length lc,I se,I sn,.bool true,I pause,I falls,.slice ka cls.length kc] rfl (fun w3_ M3=>?_);replace zab:=zwb M3;go_wp2_with (with_reducible refine zT ?_)
 refine zam rfl 3 (.tmp 4) (.const (.int .i64 0)) rfl b0 17 rfl [I 0] (rfl) zab rfl zi3 rfl [.slice ca sc.length cc,.slice ua su.length uc,.slice aa sa.length ac,.slice pa sp.length pc,I gen,.slice xa bl.length xc,.bool busy,I nc,I nt,I nk,I na,I no,I nn,.slice la pl.length lc,I se,I sn,.bool true,I 0,I falls,.slice ka cls.length kc] rfl (fun w4_ M4=>?_);replace zab:=zwb M4;go_wp2_with (with_reducible refine zT ?_)
 refine zb5 rfl 31 (.tmp 5) rfl b0 0 rfl zab [.slice ca sc.length cc,.slice ua su.length uc,.slice aa sa.length ac,.slice pa sp.length pc] rfl zcC zfr (fun v6 H_v6=>?_);go_wp2_with fail
 rw [show _=Value.agg #[.slice ca sc.length cc,.slice ua su.length uc,.slice aa sa.length ac,.slice pa sp.length pc] from H_v6.o];replace H:=zHw M4 (zHw M3 (zhd ((zhd (H.o.ext M1.o.ext)).o.ext M2.o.ext)) zaF) zaF;refine (zg3 _ _ _ _ ⟨sc,su,sa,sp⟩ w4_ B (zc8 H.o.cells H.o.undo H.o.answers H.o.past) hr).to fun r wb eb hr1=>?_;obtain ⟨cs,rfl,hcs⟩:=zbZ hr1;obtain ⟨c',u',a',p',rfl,r1,r2,r3,r4⟩:=zd2 hcs;obtain ⟨ca',cc',rfl⟩:=zao r1.o;obtain ⟨ua',uc',rfl⟩:=zao r2.o;obtain ⟨aa',ac',rfl⟩:=zaf r3.o;obtain ⟨pa',pc',rfl⟩:=zaf r4.o;replace zad:=zwg M4 (zwg M3 zad zay) zay;have hsz:w.heap.size+2<=w4_.heap.size:=by have q:=(zlt zad); have q2:=zaZ.o; omega
 have hin:∀ k,k < wb.heap.size->(B k∨w4_.heap.size<=k)->B k:=fun k _ h=>by
  rcases h with h | h
  ·exact h
  ·exact HK.o.2.1 k (by omega)
 have R1:=zhd (r1.widen hin);have R2:=zhd (r2.widen hin);have R3:=zhd (r3.widen hin);have R4:=zhd (r4.widen hin);clear hr1 hcs r1 r2 r3 r4 hin hsz;go_wp2_with (with_reducible refine zT ?_)
 replace zab:=zbx zab eb;refine zam rfl 31 (.tmp 8) (.tmp 7) rfl b0 0 rfl [.slice ca' (zbm ⟨sc,su,sa,sp⟩).cells.length cc',.slice ua' (zbm ⟨sc,su,sa,sp⟩).undo.length uc',.slice aa' (zbm ⟨sc,su,sa,sp⟩).answers.length ac',.slice pa' (zbm ⟨sc,su,sa,sp⟩).past.length pc'] (rfl) zab rfl zfr rfl [.slice ca' (zbm ⟨sc,su,sa,sp⟩).cells.length cc',.slice ua' (zbm ⟨sc,su,sa,sp⟩).undo.length uc',.slice aa' (zbm ⟨sc,su,sa,sp⟩).answers.length ac',.slice pa' (zbm ⟨sc,su,sa,sp⟩).past.length pc',I gen,.slice xa bl.length xc,.bool busy,I nc,I nt,I nk,I na,I no,I nn,.slice la pl.length lc,I se,I sn,.bool true,I 0,I falls,.slice ka cls.length kc] rfl (fun w5_ M5=>?_);replace zab:=zwb M5;have c4:=zaa (i:=4) zab.o rfl;go_wp2_with (with_reducible refine zT ?_)
 clear c4;refine za6 rfl 41 #[(0,.tmp 12)] rfl #[I (gen+1),.slice none 0 0,.bool false,I 0,I 0,I 0,I 0,I 0,I 0,.slice none 0 0,I 0,I 0] (by kernel_rfl) (fun v13 H_v13=>?_);go_wp2_with (with_reducible refine zT ?_)
 refine zam rfl 41 (.tmp 14) (.tmp 13) rfl b0 4 rfl _ (zcv H_v13) zab rfl zc0 rfl [.slice ca' (zbm ⟨sc,su,sa,sp⟩).cells.length cc',.slice ua' (zbm ⟨sc,su,sa,sp⟩).undo.length uc',.slice aa' (zbm ⟨sc,su,sa,sp⟩).answers.length ac',.slice pa' (zbm ⟨sc,su,sa,sp⟩).past.length pc',I (gen+1),.slice none 0 0,.bool false,I 0,I 0,I 0,I 0,I 0,I 0,.slice none 0 0,I 0,I 0,.bool true,I 0,I falls,.slice ka cls.length kc] rfl (fun w6_ M6=>?_);replace zab:=zwb M6;go_wp2_with (with_reducible refine zT ?_)
 refine zah rfl 44 (.tmp 1) rfl b0 rfl zab za3 zaO (fun v26 H_v26=>?_);go_wp2_with (with_reducible refine zT ?_)
 replace zad:=zwg M6 (zwg M5 (zbx zad eb) zay) zay;refine zac rfl 44 (.tmp 2) (.tmp 26) rfl b1 rfl _ (zcv H_v26) zad rfl zaO rfl (fun w7_ M7=>?_);replace zad:=zwb M7;go_wp2
 have z0:=zaq (P:=Tryz.prog) 44 zad.o za3 (by kernel_rfl);refine bodyPost_ret (by simp [results,Tryz.results34,asAddr,z0,Act.put]; rfl) rfl ?_;replace EW:=zwe M7 (zwe M6 (zwe M5 (zhd ((zwe M4 (zwe M3 (zet (zet EW M1) M2) zbr) zbr).o.trans eb)) zbr) zbr) za4;replace H:=zHw M7 (zHw M6 (zHw M5 (zhd (H.o.ext eb)) zaF) zaF) zau;replace R1:=zwr M7 (zwr M6 (zwr M5 R1 zaF) zaF) zau;replace R2:=zwr M7 (zwr M6 (zwr M5 R2 zaF) zaF) zau;replace R3:=zwr M7 (zwr M6 (zwr M5 R3 zaF) zaF) zau;replace R4:=zwr M7 (zwr M6 (zwr M5 R4 zaF) zaF) zau;exact ⟨_,rfl,EW.o,Rd.widen (A:=B) (zbT (RdM.mc (m:=⟨zbm ⟨sc,su,sa,sp⟩,zck (gen+1) [],true,0,falls,cls⟩) ⟨R1.o,R2.o,R3.o,R4.o,Rd.all fun w=>zar.nil w,Rd.all fun w=>zby w,H.o.clients⟩)) (fun k _ h=>HK.o.2.2.2 k h)⟩

end Go.Proofs.YtdmipnnfoolelaeGreat

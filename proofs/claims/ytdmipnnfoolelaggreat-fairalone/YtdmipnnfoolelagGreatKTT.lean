/- Texts of the proof, merged: V2 V3 G1. -/
import Derived.Test.YtdmipnnfoolelagGreatKTA
import Derived.Test.YtdmipnnfoolelagGreatKTL
import Derived.Test.YtdmipnnfoolelagGreatKTE
import Derived.Test.YtdmipnnfoolelagGreatKTS
import Derived.Test.YtdmipnnfoolelagGreatKTC
import Derived.Test.YtdmipnnfoolelagGreatKTM
set_option maxHeartbeats 4000000
set_option maxRecDepth 100000

namespace Go.Proofs.YtdmipnnfoolelagGreat
open Go.RowKit Go.Mk

structure OwnSv (base:Nat) (w:World) (box plan:Value) (v:Sv):Prop where
 box:zdh base w box v.box
 plan:w.ownsRow base 73 2 plan v.plan.length (zaz v.plan)
theorem OwnSv.ext {base:Nat} {w w':World} {box plan:Value} {v:Sv} (h:OwnSv base w box plan v) (he:Ext w w'):OwnSv base w' box plan v:=⟨h.box.ext he,zak h.plan he⟩
theorem OwnSv.low {base b2:Nat} {w:World} {box plan:Value} {v:Sv} (h:OwnSv base w box plan v) (hb:b2<=base):OwnSv b2 w box plan v:=⟨h.box.low hb,zbg h.plan hb⟩
theorem zdh.slice {base:Nat} {w:World} {u:Value} {bl:List (List UInt8)} (h:zdh base w u bl):∃ ao cap,u=.slice ao bl.length cap:=by
 obtain ⟨evs,h1,_⟩:=h
 exact za3 h1

def zjy (v:Sv):Prop:=v.box.length<=1000/\(∀ b ∈ v.box,b.length<=140737488355328)/\v.plan.length<=1000

theorem zhT (v:Sv) (box plan:Value) (w:World) (hb:zat 1 zck w box v.box) (hp:zaw w plan v.plan) (hs:zjy v) :
  zaV Tryz.prog 33 #[.agg (zeB v box plan).toArray] w fun r w'=>∃ box' plan',r=.agg (zeB v box' plan').toArray/\OwnSv w.heap.size w' box' plan' v/\∃ g,box'=.slice (some ⟨g,0,none⟩) v.box.length v.box.length:=by
 unfold zaV;have HS:=zhd hs;clear hs;obtain ⟨xa,xc,rfl⟩:=zag hb;obtain ⟨la,lc,rfl⟩:=zao hp;have HB:=zhd hb;have HP:=zhd hp;clear hb hp;have EW:=zhd (Ext.refl w);go_enter Tryz.func33,Tryz.ntmps33
 go_wp2_with (with_reducible refine zT ?_)
 refine zaj rfl 42 (.tmp 0) rfl #[I v.gen,.slice xa v.box.length xc,.bool v.busy,I v.now.client,I v.now.token,I v.now.call.kind,I v.now.call.name,I v.now.call.other,I v.now.call.n,.slice la v.plan.length lc,I v.says.err,I v.says.n] rfl (fun b0 w1_ M1=>?_);have zaa:=zmb M1;have zbl:Hid (w.heap.size<=b0):=by unfold Hid; have q:=M1.o.at_; omega
 go_wp2_with (with_reducible refine zT ?_)
 refine zaf rfl 42 zS (by kernel_rfl) (fun b1 w2_ M2=>?_);have zav:=zld zaa M2;have zac:=zmb M2;have zaZ:Hid (w.heap.size<=b1):=by unfold Hid; have q:=zav.o; have q2:=zbl.o; omega
 replace zaa:=zmo M2 zaa;have c1:=zad (i:=1) zaa.o rfl;go_wp2_with fail
 clear c1;replace EW:=zet (zet EW M1) M2;refine (ziV _ v.box w2_ (HB.o.ext zed EW.o) (by have:=HS.o.1; omega) HS.o.2.1).to fun r w2 e2 hr=>?_;obtain ⟨hr,yg,rfl⟩:=hr;have OB:=zhd (hr.low (b2:=w.heap.size) EW.o.size);clear hr;replace zaa:=zbx zaa e2;replace zac:=zbx zac e2;replace EW:=zhd (EW.o.trans e2);clear e2;go_wp2_with (with_reducible refine zT ?_)
 refine zal rfl 33 (.tmp 6) (.tmp 5) rfl b0 1 rfl [.slice (some ⟨yg,0,none⟩) v.box.length v.box.length] (rfl) zaa rfl zkY rfl [I v.gen,.slice (some ⟨yg,0,none⟩) v.box.length v.box.length,.bool v.busy,I v.now.client,I v.now.token,I v.now.call.kind,I v.now.call.name,I v.now.call.other,I v.now.call.n,.slice la v.plan.length lc,I v.says.err,I v.says.n] rfl (fun w3_ M3=>?_);replace OB:=zhd (OB.o.kept M3.o.grown zaa.o (by decide) (by decide));replace zaa:=zwb M3;have c9:=zad (i:=9) zaa.o rfl;go_wp2_with fail
 clear c9;replace EW:=zwe M3 EW zbl;refine (zms _ v.plan w3_ (HP.o.ext EW.o) (by have:=HS.o.2.2; omega)).to fun r w4 e4 hr=>?_;obtain ⟨za,zc,rfl⟩:=za3 hr;have OP:=zhd (zbg hr (b2:=w.heap.size) EW.o.size);clear hr;replace zac:=zbx (zwg M3 zac zav) e4;replace zaa:=zbx zaa e4;replace OB:=zhd (OB.o.ext e4);replace EW:=zhd (EW.o.trans e4);clear e4;go_wp2_with (with_reducible refine zT ?_)
 refine zal rfl 28 (.tmp 10) (.tmp 9) rfl b0 9 rfl [.slice za v.plan.length zc] (rfl) zaa rfl zmj rfl [I v.gen,.slice (some ⟨yg,0,none⟩) v.box.length v.box.length,.bool v.busy,I v.now.client,I v.now.token,I v.now.call.kind,I v.now.call.name,I v.now.call.other,I v.now.call.n,.slice za v.plan.length zc,I v.says.err,I v.says.n] rfl (fun w4_ M4=>?_);replace OP:=zhd (OP.o.kept M4.o.grown (.inr (za6 OP.o zaa.o (by decide))));replace OB:=zhd (OB.o.kept M4.o.grown zaa.o (by decide) (by decide));replace zaa:=zwb M4;go_wp2_with (with_reducible refine zT ?_)
 refine zah rfl 42 (.tmp 1) rfl b0 rfl zaa zcj zda (fun v11 H_v11=>?_);go_wp2_with (with_reducible refine zT ?_)
 replace zac:=zwg M4 zac zav;refine zab rfl 42 (.tmp 2) (.tmp 11) rfl b1 rfl _ (zcv H_v11) zac rfl zda rfl (fun w5_ M5=>?_);replace OP:=zhd (OP.o.kept M5.o.grown (.inr (za6 OP.o zac.o (by decide))));replace OB:=zhd (OB.o.kept M5.o.grown zac.o (by decide) (by decide));replace zac:=zwb M5;go_wp2
 have z0:=zap (P:=Tryz.prog) 42 zac.o zcj (by kernel_rfl);refine bodyPost_ret (by simp [results,Tryz.results33,asAddr,z0,Act.put]; rfl) rfl ?_;replace EW:=zwe M5 (zwe M4 EW zbl) zaZ;exact ⟨_,rfl,EW.o,_,_,rfl,⟨OB.o,OP.o⟩,_,rfl⟩

open Go.RowKit Go.Mk

theorem OwnSv.rd {base:Nat} {w:World} {box plan:Value} {v:Sv} {B:Nat->Prop} (h:OwnSv base w box plan v) (hB:∀ g,base<=g->(∀ cs t,w.heap[g]?=some (.cells cs t (0,0))->t=78∨t=5∨t=73)->B g) :
  Rd B (fun w=>zat 1 zck w box v.box) w/\Rd B (fun w=>zaw w plan v.plan) w:=by
 refine ⟨h.box.rd fun g hg ht=>hB g hg fun cs t hc=>?_,zc0 h.plan fun g hg=>hB g (h.plan.lt g hg).1 fun cs t hc=>?_⟩
 ·rcases ht cs t hc with e | e
  ·exact .inl e
  ·exact .inr (.inl e)
 ·by_cases hne:(73:Nat)=t
  ·exact .inr (.inr hne.symm)
  ·exact absurd hg (za6 h.plan hc hne)
theorem zdh.snoc {base:Nat} {w:World} {u ev:Value} {bl:List (List UInt8)} {b:List UInt8} {evs:List Value} (h:∀ (i:Nat) (b:List UInt8),bl[i]?=some b->∃ ev,evs[i]?=some ev/\w.ownsRow base 5 1 ev b.length (b.map U)) (hl:evs.length=bl.length) (hu:w.ownsRow base 78 1 u (bl.length+1) (evs++[ev])) (he:w.ownsRow base 5 1 ev b.length (b.map U)):zdh base w u (bl++[b]):=by
 refine ⟨evs++[ev],by rw [List.length_append]; exact hu,fun i x hx=>?_⟩
 by_cases hi:i < bl.length
 ·rw [List.getElem?_append_left hi] at hx
  obtain ⟨e2,h3,h4⟩:=h i x hx
  exact ⟨e2,by rw [List.getElem?_append_left (by omega)]; exact h3,h4⟩
 ·rw [List.getElem?_append_right (by omega)] at hx
  have h0:i - bl.length=0:=by
   have:=(List.getElem?_eq_some_iff.1 hx).1
   simp at this
   omega
  rw [h0] at hx
  simp at hx
  subst hx
  exact ⟨ev,by rw [List.getElem?_append_right (by omega),show i - evs.length=0 by omega]; rfl,he⟩
theorem zdh.list {base:Nat} {w:World} {u:Value} {bl:List (List UInt8)} (h:zdh base w u bl):∃ evs:List Value,evs.length=bl.length/\w.ownsRow base 78 1 u bl.length evs/\∀ (i:Nat) (b:List UInt8),bl[i]?=some b->∃ ev,evs[i]?=some ev/\w.ownsRow base 5 1 ev b.length (b.map U):=by
 obtain ⟨evs,h1,h2⟩:=h
 exact ⟨evs,by have:=h1.1; simpa using this,h1,h2⟩
theorem zjl (base:Nat) (bl:List (List UInt8)):∀ v,zcy (fun w=>zdh base w v bl):=fun _ _ _ he h=>h.ext he

theorem zpd (v:Sv) (box plan bv:Value) (b:List UInt8) (w:World) (hb:zat 1 zck w box v.box) (hp:zaw w plan v.plan) (hv:zba w bv b) (hs:zjy v) (hbl:b.length<=140737488355328) :
  zaV Tryz.prog 81 #[.agg (zeB v box plan).toArray,bv] w fun r w'=>∃ box' plan',r=.tuple #[.agg (zeB (zbY v b).1 box' plan').toArray,I (zbY v b).2]/\OwnSv w.heap.size w' box' plan' (zbY v b).1:=by
 unfold zaV;have HS:=zhd hs;have HBL:=zhd hbl;clear hs hbl;obtain ⟨xa,xc,rfl⟩:=zag hb;obtain ⟨la,lc,rfl⟩:=zao hp;obtain ⟨va,vc,rfl⟩:=zao hv;have HB:=zhd hb;have HP:=zhd hp;have HV:=zhd hv;clear hb hp hv;have EW:=zhd (Ext.refl w);obtain ⟨i0,hi,hz0,hz1,hz2⟩:=info_parts Tryz.infoBs;have HI:=zhd hi;clear hi;have hX:zbY v b=if 3<=v.box.length then (v,9) else ({ v with box:=v.box++[b] },0):=rfl;rw [hX];clear hX;by_cases h3:3<=v.box.length
 case pos =>
  rw [if_pos h3];have h3i:(3:Int)<=(v.box.length:Int):=by omega
  clear h3;go_enter Tryz.func81,Tryz.ntmps81
  go_wp2_with (with_reducible refine zT ?_)
  refine zaj rfl 42 (.tmp 0) rfl #[I v.gen,.slice xa v.box.length xc,.bool v.busy,I v.now.client,I v.now.token,I v.now.call.kind,I v.now.call.name,I v.now.call.other,I v.now.call.n,.slice la v.plan.length lc,I v.says.err,I v.says.n] rfl (fun b0 w1_ M1=>?_);have zaa:=zmb M1;have zbl:Hid (w.heap.size<=b0):=by unfold Hid; have q:=M1.o.at_; omega
  go_wp2_with (with_reducible refine zT ?_)
  refine zaf rfl 42 zS (by kernel_rfl) (fun b1 w2_ M2=>?_);have zav:=zld zaa M2;have zac:=zmb M2;have zaZ:Hid (w.heap.size<=b1):=by unfold Hid; have q:=zav.o; have q2:=zbl.o; omega
  go_wp2_with (with_reducible refine zT ?_)
  replace zaa:=zmo M2 zaa;refine zah rfl 42 (.tmp 2) rfl b0 rfl zaa zcj zda (fun v7 H_v7=>?_);go_wp2_with fail
  rw [H_v7.o];replace EW:=zet (zet EW M1) M2;refine (zhT v _ _ w2_ (HB.o.ext zed EW.o) (HP.o.ext EW.o) HS.o).to fun r w2 e2 hr=>?_;obtain ⟨box',plan',rfl,ho,yg,rfl⟩:=hr;obtain ⟨za,zc,rfl⟩:=za3 ho.plan;have OS:=zhd (ho.low (b2:=w.heap.size) EW.o.size);clear ho H_v7;replace zaa:=zbx zaa e2;replace zac:=zbx zac e2;replace EW:=zhd (EW.o.trans e2);clear e2;go_wp2_with (with_reducible refine zT ?_)
  refine zaf rfl 42 zS (by kernel_rfl) (fun b2 w3_ M3=>?_);have zaR:=zld zaa M3;have zaG:=zld zac M3;have zai:=zmb M3;have zbm:Hid (w.heap.size<=b2):=by unfold Hid; have q:=zaR.o; have q2:=zbl.o; omega
  go_wp2_with (with_reducible refine zT ?_)
  refine zab rfl 42 (.tmp 6) (.tmp 8) rfl b2 rfl [I v.gen,.slice (some ⟨yg,0,none⟩) v.box.length v.box.length,.bool v.busy,I v.now.client,I v.now.token,I v.now.call.kind,I v.now.call.name,I v.now.call.other,I v.now.call.n,.slice za v.plan.length zc,I v.says.err,I v.says.n] (rfl) zai rfl zda rfl (fun w4_ M4=>?_);replace OS:=zhd (OS.o.ext M3.o.ext);replace OS:=zhd ((⟨OS.o.box.kept M4.o.grown zai.o (by decide) (by decide),OS.o.plan.kept M4.o.grown (.inr (za6 OS.o.plan zai.o (by decide)))⟩:OwnSv _ _ _ _ _));replace zai:=zwb M4;replace zaa:=zwl M4 (zmo M3 zaa) zaR;have c1:=zad (i:=1) zaa.o rfl;go_wp2_with (with_reducible refine zT ?_)
  clear c1 h3i;refine zah rfl 42 (.tmp 6) rfl b2 rfl zai zcj zda (fun v13 H_v13=>?_);go_wp2_with (with_reducible refine zT ?_)
  replace zac:=zwl M4 (zmo M3 zac) zaG;refine zab rfl 42 (.tmp 4) (.tmp 13) rfl b1 rfl _ (zcv H_v13) zac rfl zda rfl (fun w5_ M5=>?_);replace OS:=zhd ((⟨OS.o.box.kept M5.o.grown zac.o (by decide) (by decide),OS.o.plan.kept M5.o.grown (.inr (za6 OS.o.plan zac.o (by decide)))⟩:OwnSv _ _ _ _ _));replace zac:=zwb M5;go_wp2
  have z0:=zap (P:=Tryz.prog) 42 zac.o zcj (by kernel_rfl);refine bodyPost_ret (by simp [results,Tryz.results81,asAddr,z0]; rfl) rfl ?_;replace EW:=zwe M5 (zwe M4 (zet EW M3) zbm) zaZ;exact ⟨_,rfl,EW.o,_,_,rfl,OS.o⟩
 rw [if_neg h3];have h3i:¬ ((3:Int)<=(v.box.length:Int)):=by omega
 clear h3;go_enter Tryz.func81,Tryz.ntmps81
 go_wp2_with (with_reducible refine zT ?_)
 refine zaj rfl 42 (.tmp 0) rfl #[I v.gen,.slice xa v.box.length xc,.bool v.busy,I v.now.client,I v.now.token,I v.now.call.kind,I v.now.call.name,I v.now.call.other,I v.now.call.n,.slice la v.plan.length lc,I v.says.err,I v.says.n] rfl (fun b0 w1_ M1=>?_);have zaa:=zmb M1;have zbl:Hid (w.heap.size<=b0):=by unfold Hid; have q:=M1.o.at_; omega
 go_wp2_with (with_reducible refine zT ?_)
 refine zaf rfl 42 zS (by kernel_rfl) (fun b1 w2_ M2=>?_);have zav:=zld zaa M2;have zac:=zmb M2;have zaZ:Hid (w.heap.size<=b1):=by unfold Hid; have q:=zav.o; have q2:=zbl.o; omega
 go_wp2_with (with_reducible refine zT ?_)
 replace zaa:=zmo M2 zaa;refine zah rfl 42 (.tmp 2) rfl b0 rfl zaa zcj zda (fun v7 H_v7=>?_);go_wp2_with fail
 rw [H_v7.o];replace EW:=zet (zet EW M1) M2;refine (zhT v _ _ w2_ (HB.o.ext zed EW.o) (HP.o.ext EW.o) HS.o).to fun r w2 e2 hr=>?_;obtain ⟨box',plan',rfl,ho,yg,rfl⟩:=hr;obtain ⟨za,zc,rfl⟩:=za3 ho.plan;have OS:=zhd (ho.low (b2:=w.heap.size) EW.o.size);clear ho H_v7;replace zaa:=zbx zaa e2;replace zac:=zbx zac e2;replace EW:=zhd (EW.o.trans e2);clear e2;go_wp2_with (with_reducible refine zT ?_)
 refine zaf rfl 42 zS (by kernel_rfl) (fun b2 w3_ M3=>?_);have zaR:=zld zaa M3;have zaG:=zld zac M3;have zai:=zmb M3;have zbm:Hid (w.heap.size<=b2):=by unfold Hid; have q:=zaR.o; have q2:=zbl.o; omega
 go_wp2_with (with_reducible refine zT ?_)
 refine zab rfl 42 (.tmp 6) (.tmp 8) rfl b2 rfl [I v.gen,.slice (some ⟨yg,0,none⟩) v.box.length v.box.length,.bool v.busy,I v.now.client,I v.now.token,I v.now.call.kind,I v.now.call.name,I v.now.call.other,I v.now.call.n,.slice za v.plan.length zc,I v.says.err,I v.says.n] (rfl) zai rfl zda rfl (fun w4_ M4=>?_);replace OS:=zhd (OS.o.ext M3.o.ext);replace OS:=zhd ((⟨OS.o.box.kept M4.o.grown zai.o (by decide) (by decide),OS.o.plan.kept M4.o.grown (.inr (za6 OS.o.plan zai.o (by decide)))⟩:OwnSv _ _ _ _ _));replace zai:=zwb M4;replace zaa:=zwl M4 (zmo M3 zaa) zaR;have c1:=zad (i:=1) zaa.o rfl;go_wp2_with fail
 clear c1 h3i;have c1:=zad (i:=1) zai.o rfl;have hcw:=c1;replace zac:=zwl M4 (zmo M3 zac) zaG;replace EW:=zwe M4 (zet EW M3) zbm;refine zam 7 [none,none,none,some (.inr (fun r wx=>wx.ownsRow w.heap.size 5 1 r b.length (b.map U))),some (.inr (fun r wx=>∃ ev,Row wx 1 r 1 [ev]/\ev.oneCell'=true/\wx.ownsRow w.heap.size 5 1 ev b.length (b.map U))),some (.inr (fun r wx=>zdh w.heap.size wx r (v.box++[b]))),none] (by kernel_rfl) (by kernel_rfl) ?_ ?_
 ·exact ⟨trivial,trivial,trivial,zci _ _ _ _ _,fun _ _ _ he ⟨ev,h1,h2,h3⟩=>⟨ev,h1.ext he,h2,zak h3 he⟩,zjl _ _,trivial,trivial⟩
 (refine zar (fun K hK=>?_); go_simp; first | refine hK _ ?_ | refine ⟨(fun h=>by cases h),hK _ ?_⟩; clear hK K)
 refine zaE (.slice (some ⟨yg,0,none⟩) v.box.length v.box.length) rfl (fun w' hw'=>by have q0:=hw'.cell hcw; go_simp) ?_;refine zan fun K h=>?_; go_simp; refine h _ ?_; clear h K;(refine zar (fun K hK=>?_); go_simp; first | refine hK _ ?_ | refine ⟨(fun h=>by cases h),hK _ ?_⟩; clear hK K)
 refine za8 _ rfl (fun w' hw' hk=>?_) (fun v17=>?_)
 ·have hg:=(ziZ _ b w' (HV.o.ext (EW.o.trans hw')) HBL.o).mono (fun r wx _ h=>zbg (b2:=w.heap.size) h (Nat.le_trans EW.o.size hw'.size));clear hk;unfold zaT;go_simp
  exact ⟨Ext.refl _,hg⟩
 refine zan fun K h=>?_; go_simp; refine h _ ?_; clear h K;refine za8 _ rfl (fun w' hw' hk=>?_) (fun v18=>?_)
 ·have h17:w'.ownsRow w.heap.size 5 1 v17 b.length (b.map U):=hk 17 (by decide);obtain ⟨ea,ec,rfl⟩:=za3 h17;clear hk;unfold zaT;go_simp
  exact ⟨(Ext.refl _).alloc _,_,Row.of_owns (World.ownsRow_lit (base:=0) (size:=1) w' _ 1 (Nat.zero_le _) (by decide) rfl),rfl,h17.alloc _⟩
 refine zan fun K h=>?_; go_simp; refine h _ ?_; clear h K;refine za8 _ rfl (fun w' hw' hk=>?_) (fun v19=>?_)
 ·obtain ⟨ev,h1,h2,h3⟩:∃ ev,Row w' 1 v18 1 [ev]/\ev.oneCell'=true/\w'.ownsRow w.heap.size 5 1 ev b.length (b.map U):=hk 18 (by decide);obtain ⟨evs,hl,hr1,hr2⟩:=(OS.o.box.ext hw').list;obtain ⟨vv,ww,hrun,hoo,hee⟩:=zb6 (P:=Tryz.prog) w' w.heap.size 33 33 78 i0 _ 1 24 zm0 HI.o hz0 hz1 hz2 rfl (by decide) (.slice (some ⟨yg,0,none⟩) v.box.length v.box.length) v.box.length evs ⟨yg,rfl,hr1⟩ v18 1 [ev] h1 (fun u hu=>by rw [List.mem_singleton.1 hu]; exact h2) (by have:=HS.o.1; omega) (by decide) (Nat.le_trans EW.o.size hw'.size);exact zc3 rfl rfl rfl hrun hee (zdh.snoc (fun i x hx=>by obtain ⟨e2,q1,q2⟩:=hr2 i x hx; exact ⟨e2,q1,zak q2 hee⟩) hl hoo (zak h3 hee))
 refine zan fun K h=>?_; go_simp; refine h _ ?_; clear h K;(refine zar (fun K hK=>?_); go_simp; first | refine hK _ ?_ | refine ⟨(fun h=>by cases h),hK _ ?_⟩; clear hK K)
 refine za0 ?_;intro w5 e5 hF;have ob:zdh w.heap.size w5 v19 (v.box++[b]):=hF 19;obtain ⟨na,nc,en⟩:=ob.slice;rw [show (v.box++[b]).length=v.box.length+1 by simp] at en;subst en;have OB:=zhd ob;clear hF ob hcw c1;replace zaa:=zbx zaa e5;replace zac:=zbx zac e5;replace zai:=zbx zai e5;replace OS:=zhd (OS.o.ext e5);replace EW:=zhd (EW.o.trans e5);clear e5;refine zfZ ?_;refine zal rfl 33 (.tmp 20) (.tmp 19) rfl b2 1 rfl [.slice na (v.box.length+1) nc] (rfl) zai rfl zkY rfl [I v.gen,.slice na (v.box.length+1) nc,.bool v.busy,I v.now.client,I v.now.token,I v.now.call.kind,I v.now.call.name,I v.now.call.other,I v.now.call.n,.slice za v.plan.length zc,I v.says.err,I v.says.n] rfl (fun w5_ M5=>?_);replace OS:=zhd ((⟨OS.o.box.kept M5.o.grown zai.o (by decide) (by decide),OS.o.plan.kept M5.o.grown (.inr (za6 OS.o.plan zai.o (by decide)))⟩:OwnSv _ _ _ _ _));replace OB:=zhd (OB.o.kept M5.o.grown zai.o (by decide) (by decide));replace zai:=zwb M5;go_wp2_with (with_reducible refine zT ?_)
 refine zah rfl 42 (.tmp 6) rfl b2 rfl zai zcj zda (fun v21 H_v21=>?_);go_wp2_with (with_reducible refine zT ?_)
 replace zac:=zwl M5 zac zaG;refine zab rfl 42 (.tmp 4) (.tmp 21) rfl b1 rfl _ (zcv H_v21) zac rfl zda rfl (fun w6_ M6=>?_);replace OS:=zhd ((⟨OS.o.box.kept M6.o.grown zac.o (by decide) (by decide),OS.o.plan.kept M6.o.grown (.inr (za6 OS.o.plan zac.o (by decide)))⟩:OwnSv _ _ _ _ _));replace OB:=zhd (OB.o.kept M6.o.grown zac.o (by decide) (by decide));replace zac:=zwb M6;go_wp2
 have z0:=zap (P:=Tryz.prog) 42 zac.o zcj (by kernel_rfl);refine bodyPost_ret (by simp [results,Tryz.results81,asAddr,z0]; rfl) rfl ?_;replace EW:=zwe M6 (zwe M5 EW zbm) zaZ;exact ⟨_,rfl,EW.o,_,_,rfl,(⟨OB.o,OS.o.plan⟩:OwnSv _ _ _ _ { v with box:=v.box++[b] })⟩

theorem znf (v:Sv) (box plan bv:Value) (b:List UInt8) (w:World) (hb:zat 1 zck w box v.box) (hp:zaw w plan v.plan) (hv:zba w bv b) (hs:zjy v) (hbl:b.length<=140737488355328) :
  zaJ Tryz.prog 81 #[.agg (zeB v box plan).toArray,bv] w (fun _=>False) (fun r w'=>zge zhq (zbY v b).1 (zbY v b).2 r w') :=
 (zpd v box plan bv b w hb hp hv hs hbl).to fun r w' he h=>by
  obtain ⟨x,y,rfl,ho⟩:=h
  obtain ⟨r1,r2⟩:=ho.rd (B:=fun k=>False∨w.heap.size<=k) fun g hg _=>.inr hg
  exact ⟨_,rfl,he,zbO (zdI r1 r2)⟩

open Go.RowKit Go.Mk

theorem Tryz.infoCallG:(Tryz.prog.info? 35).map (fun i=>(i.zero,i.size,i.bytes))=some (some (.agg #[.int .i64 0,.int .i64 0,.int .i64 0,.int .i64 0]),4,32):=by kernel_rfl
theorem Tryz.infoReplyG:(Tryz.prog.info? 40).map (fun i=>(i.zero,i.size,i.bytes))=some (some (.agg #[.int .i64 0,.int .i64 0]),2,16):=by kernel_rfl
def zem (l:List Cl):List Value:=l.flatMap fun x=>[I x.kind,I x.name,I x.other,I x.n]
theorem ziT (l:List Cl):(zem l).length=l.length * 4:=by
 unfold zem
 induction l with
 | nil=>rfl
 | cons p l ih=>simp [List.flatMap_cons,ih]; omega
theorem zmq (l:List Cl):∀ u ∈ zem l,u.oneCell'=true:=by
 intro u hu
 unfold zem at hu
 rw [List.mem_flatMap] at hu
 obtain ⟨p,_,hp⟩:=hu
 simp at hp
 rcases hp with rfl | rfl | rfl | rfl <;> rfl
theorem zkJ {w:World} {v:Value} {l:List Cl}:zat 4 zdy w v l↔Row w 4 v l.length (zem l):=zc6 (f:=fun (x:Cl)=>[I x.kind,I x.name,I x.other,I x.n]) (fun _=>rfl)
theorem zjn {base e n:Nat} {v:Value} {l:List Cl} {w:World} (h:w.ownsRow base e 4 v n (zem l)):Rd (fun k=>base<=k) (fun w=>zat 4 zdy w v l) w:=by
 have hl:l.length=n:=by have:=h.1; rw [ziT] at this; omega
 subst hl
 exact (zdL h).imp fun w h=>zkJ.2 h

theorem zm1 (v:Value) (xs:List Cl) (w:World) (hv:zat 4 zdy w v xs) (hr:xs.length * 32<=140737488355328) :
  zaV Tryz.prog 59 #[v] w fun r w'=>w'.ownsRow w.heap.size 35 4 r xs.length (zem xs)/\r=.slice (some ⟨w.heap.size,0,none⟩) xs.length xs.length:=by
 unfold zaV;obtain ⟨i0,hi,hz0,hz1,hz2⟩:=info_parts Tryz.infoCallG;have hsz:(Tryz.prog.info? 35).map (·.size)=some 4:=by rw [hi]; simp [hz1]
 have hrow:Row w 4 v xs.length (zem xs):=zkJ.1 hv;clear hv;obtain ⟨hlen,ao,cap,rfl,h1,h2,h0,h3⟩:=hrow;unfold maxLen at h2;go_enter Tryz.func59,Tryz.ntmps59
 go_wp2_with (at_make; refine wpList_make_full _ rfl _ _ 22 rfl w.heap.size 35 i0 (.agg #[.int .i64 0,.int .i64 0,.int .i64 0,.int .i64 0]) 4 zrw hi hz0 hz1 .i64 .i64 _ _ xs.length rfl rfl rfl rfl (by rw [hz2]; omega) (by unfold maxLen; omega) (Nat.le_refl _) ?_; intro w1 hown hgrow)
 have he1:Ext w w1:=(Ext.refl w).grown hgrow (fun k hk=>by cases hk);obtain ⟨w2,hrun,hown2,hgrow2⟩:=zb2 (P:=Tryz.prog) w1 22 3 35 4 zrw hsz w.heap.size w.heap.size xs.length _ (zem xs) _ hown (Row.ext ⟨hlen,ao,cap,rfl,h1,h2,h0,h3⟩ he1) (zmq xs);have he2:Ext w w2:=he1.grown hgrow2 (fun k hk=>by cases hk; exact Nat.le_refl _);rw [hrun];clear hrun hown hgrow hgrow2 he1 h3;go_wp2
 go_ret
 exact ⟨_,rfl,he2,hown2,rfl⟩

theorem zlm (v:Value) (xs:List Rp) (w:World) (hv:zat 2 zdU w v xs) (hr:xs.length * 16<=140737488355328) :
  zaV Tryz.prog 60 #[v] w fun r w'=>w'.ownsRow w.heap.size 40 2 r xs.length (zbP xs)/\r=.slice (some ⟨w.heap.size,0,none⟩) xs.length xs.length:=by
 unfold zaV;obtain ⟨i0,hi,hz0,hz1,hz2⟩:=info_parts Tryz.infoReplyG;have hsz:(Tryz.prog.info? 40).map (·.size)=some 2:=by rw [hi]; simp [hz1]
 have hrow:Row w 2 v xs.length (zbP xs):=zgF.1 hv;clear hv;obtain ⟨hlen,ao,cap,rfl,h1,h2,h0,h3⟩:=hrow;unfold maxLen at h2;go_enter Tryz.func60,Tryz.ntmps60
 go_wp2_with (at_make; refine wpList_make_full _ rfl _ _ 51 rfl w.heap.size 40 i0 (.agg #[.int .i64 0,.int .i64 0]) 2 zmm hi hz0 hz1 .i64 .i64 _ _ xs.length rfl rfl rfl rfl (by rw [hz2]; omega) (by unfold maxLen; omega) (Nat.le_refl _) ?_; intro w1 hown hgrow)
 have he1:Ext w w1:=(Ext.refl w).grown hgrow (fun k hk=>by cases hk);obtain ⟨w2,hrun,hown2,hgrow2⟩:=zb2 (P:=Tryz.prog) w1 51 3 40 2 zmm hsz w.heap.size w.heap.size xs.length _ (zbP xs) _ hown (Row.ext ⟨hlen,ao,cap,rfl,h1,h2,h0,h3⟩ he1) (zeR xs);have he2:Ext w w2:=he1.grown hgrow2 (fun k hk=>by cases hk; exact Nat.le_refl _);rw [hrun];clear hrun hown hgrow hgrow2 he1 h3;go_wp2
 go_ret
 exact ⟨_,rfl,he2,hown2,rfl⟩

theorem zly (v:Value) (n:Nat) (cs:List Value) (w:World) (hv:Row w 6 v n cs) (h1s:∀ u ∈ cs,u.oneCell'=true) (hr:n * 96<=140737488355328) :
  zaV Tryz.prog 34 #[v] w fun r w'=>w'.ownsRow w.heap.size 56 6 r n cs/\r=.slice (some ⟨w.heap.size,0,none⟩) n n:=by
 unfold zaV;obtain ⟨i0,hi,hz0,hz1,hz2⟩:=info_parts Tryz.infoClient;have hsz:(Tryz.prog.info? 56).map (·.size)=some 6:=by rw [hi]; simp [hz1]
 have hrow:Row w 6 v n cs:=hv;clear hv;obtain ⟨hlen,ao,cap,rfl,h1,h2,h0,h3⟩:=hrow;unfold maxLen at h2;go_enter Tryz.func34,Tryz.ntmps34
 go_wp2_with (at_make; refine wpList_make_full _ rfl _ _ 43 rfl w.heap.size 56 i0 (.agg zC) 6 zqb hi hz0 hz1 .i64 .i64 _ _ n rfl rfl rfl rfl (by rw [hz2]; omega) (by unfold maxLen; omega) (Nat.le_refl _) ?_; intro w1 hown hgrow)
 have he1:Ext w w1:=(Ext.refl w).grown hgrow (fun k hk=>by cases hk);obtain ⟨w2,hrun,hown2,hgrow2⟩:=zb2 (P:=Tryz.prog) w1 43 3 56 6 zqb hsz w.heap.size w.heap.size n _ cs _ hown (Row.ext ⟨hlen,ao,cap,rfl,h1,h2,h0,h3⟩ he1) h1s;have he2:Ext w w2:=he1.grown hgrow2 (fun k hk=>by cases hk; exact Nat.le_refl _);rw [hrun];clear hrun hown hgrow hgrow2 he1 h3;go_wp2
 go_ret
 exact ⟨_,rfl,he2,hown2,rfl⟩

def zlc (c:Cn):Prop:=c.calls.length<=1000000/\c.box.length<=1000000/\(∀ b ∈ c.box,b.length<=140737488355328)/\c.got.length<=1000000

structure OwnCn (base:Nat) (w:World) (calls box got:Value) (c:Cn):Prop where
 calls:w.ownsRow base 35 4 calls c.calls.length (zem c.calls)
 box:zdh base w box c.box
 got:w.ownsRow base 40 2 got c.got.length (zbP c.got)

theorem zde (c:Cn) (calls box got:Value) (w:World) (h1:zat 4 zdy w calls c.calls) (h2:zat 1 zck w box c.box) (h3:zat 2 zdU w got c.got) (hs:zlc c) :
  zaV Tryz.prog 35 #[.agg #[calls,I c.at_,.bool c.sent,I c.gen,box,got]] w fun r w'=>∃ kg xg gg,r=.agg #[.slice (some ⟨kg,0,none⟩) c.calls.length c.calls.length,I c.at_,.bool c.sent,I c.gen,.slice (some ⟨xg,0,none⟩) c.box.length c.box.length,.slice (some ⟨gg,0,none⟩) c.got.length c.got.length]/\OwnCn w.heap.size w' (.slice (some ⟨kg,0,none⟩) c.calls.length c.calls.length) (.slice (some ⟨xg,0,none⟩) c.box.length c.box.length) (.slice (some ⟨gg,0,none⟩) c.got.length c.got.length) c:=by
 unfold zaV;have HS:=zhd hs;clear hs;obtain ⟨ka,kc,rfl⟩:=zag h1;obtain ⟨xa,xc,rfl⟩:=zag h2;obtain ⟨ga,gc,rfl⟩:=zag h3;have H1:=zhd h1;have H2:=zhd h2;have H3:=zhd h3;clear h1 h2 h3;have EW:=zhd (Ext.refl w);go_enter Tryz.func35,Tryz.ntmps35
 go_wp2_with (with_reducible refine zT ?_)
 refine zaj rfl 56 (.tmp 0) rfl #[.slice ka c.calls.length kc,I c.at_,.bool c.sent,I c.gen,.slice xa c.box.length xc,.slice ga c.got.length gc] rfl (fun b0 w1_ M1=>?_);have zaa:=zmb M1;go_wp2_with (with_reducible refine zT ?_)
 refine zaf rfl 56 zC (by kernel_rfl) (fun b1 w2_ M2=>?_);have zav:=zld zaa M2;have zac:=zmb M2;have zbl:Hid (w.heap.size<=b0):=by unfold Hid; have q:=M1.o.at_; omega
 have zaZ:Hid (w.heap.size<=b1):=by unfold Hid; have q:=zav.o; have q2:=zbl.o; omega
 replace zaa:=zmo M2 zaa;have cq:=zad (i:=0) zaa.o rfl;go_wp2_with fail
 clear cq;replace EW:=zet (zet EW M1) M2;refine (zm1 _ c.calls w2_ (H1.o.ext zd9 EW.o) (by have:=HS.o.1; omega)).to fun r wa ea hr=>?_;obtain ⟨kg,rfl⟩:∃ g,r=.slice (some ⟨g,0,none⟩) c.calls.length c.calls.length:=⟨_,hr.2⟩;have OPa:=zhd (zbg (b2:=w.heap.size) hr.1 EW.o.size);clear hr;replace zaa:=zbx zaa ea;replace zac:=zbx zac ea;replace EW:=zhd (EW.o.trans ea);clear ea;go_wp2_with (with_reducible refine zT ?_)
 refine zal rfl 22 (.tmp 6) (.tmp 5) rfl b0 0 rfl [.slice (some ⟨kg,0,none⟩) c.calls.length c.calls.length] (rfl) zaa rfl zso rfl [.slice (some ⟨kg,0,none⟩) c.calls.length c.calls.length,I c.at_,.bool c.sent,I c.gen,.slice xa c.box.length xc,.slice ga c.got.length gc] rfl (fun w3_ M3=>?_);replace OPa:=zhd (OPa.o.kept M3.o.grown (.inr (za6 OPa.o zaa.o (by decide))));replace zaa:=zwb M3;have cq:=zad (i:=4) zaa.o rfl;go_wp2_with fail
 clear cq;replace EW:=zwe M3 EW zbl;refine (ziV _ c.box w3_ (H2.o.ext zed EW.o) (by have:=HS.o.2.1; omega) HS.o.2.2.1).to fun r wb eb hr=>?_;obtain ⟨xg,rfl⟩:=hr.2;have OB:=zhd (hr.1.low (b2:=w.heap.size) EW.o.size);clear hr;replace zac:=zbx (zwg M3 zac zav) eb;replace zaa:=zbx zaa eb;replace OPa:=zhd (zak OPa.o eb);replace EW:=zhd (EW.o.trans eb);clear eb;go_wp2_with (with_reducible refine zT ?_)
 refine zal rfl 33 (.tmp 10) (.tmp 9) rfl b0 4 rfl [.slice (some ⟨xg,0,none⟩) c.box.length c.box.length] (rfl) zaa rfl zkY rfl [.slice (some ⟨kg,0,none⟩) c.calls.length c.calls.length,I c.at_,.bool c.sent,I c.gen,.slice (some ⟨xg,0,none⟩) c.box.length c.box.length,.slice ga c.got.length gc] rfl (fun w4_ M4=>?_);replace OPa:=zhd (OPa.o.kept M4.o.grown (.inr (za6 OPa.o zaa.o (by decide))));replace OB:=zhd (OB.o.kept M4.o.grown zaa.o (by decide) (by decide));replace zaa:=zwb M4;have cq:=zad (i:=5) zaa.o rfl;go_wp2_with fail
 clear cq;replace EW:=zwe M4 EW zbl;refine (zlm _ c.got w4_ (H3.o.ext zgf EW.o) (by have:=HS.o.2.2.2; omega)).to fun r wc ec hr=>?_;obtain ⟨gg,rfl⟩:∃ g,r=.slice (some ⟨g,0,none⟩) c.got.length c.got.length:=⟨_,hr.2⟩;have OPg:=zhd (zbg (b2:=w.heap.size) hr.1 EW.o.size);clear hr;replace zac:=zbx (zwg M4 zac zav) ec;replace zaa:=zbx zaa ec;replace OPa:=zhd (zak OPa.o ec);replace OB:=zhd (OB.o.ext ec);replace EW:=zhd (EW.o.trans ec);clear ec;go_wp2_with (with_reducible refine zT ?_)
 refine zal rfl 51 (.tmp 14) (.tmp 13) rfl b0 5 rfl [.slice (some ⟨gg,0,none⟩) c.got.length c.got.length] (rfl) zaa rfl zq0 rfl [.slice (some ⟨kg,0,none⟩) c.calls.length c.calls.length,I c.at_,.bool c.sent,I c.gen,.slice (some ⟨xg,0,none⟩) c.box.length c.box.length,.slice (some ⟨gg,0,none⟩) c.got.length c.got.length] rfl (fun w5_ M5=>?_);replace OPa:=zhd (OPa.o.kept M5.o.grown (.inr (za6 OPa.o zaa.o (by decide))));replace OPg:=zhd (OPg.o.kept M5.o.grown (.inr (za6 OPg.o zaa.o (by decide))));replace OB:=zhd (OB.o.kept M5.o.grown zaa.o (by decide) (by decide));replace zaa:=zwb M5;go_wp2_with (with_reducible refine zT ?_)
 refine zah rfl 56 (.tmp 1) rfl b0 rfl zaa zbM zbN (fun v15 H_v15=>?_);go_wp2_with (with_reducible refine zT ?_)
 replace zac:=zwg M5 zac zav;refine zab rfl 56 (.tmp 2) (.tmp 15) rfl b1 rfl _ (zcv H_v15) zac rfl zbN rfl (fun w6_ M6=>?_);replace OPa:=zhd (OPa.o.kept M6.o.grown (.inr (za6 OPa.o zac.o (by decide))));replace OPg:=zhd (OPg.o.kept M6.o.grown (.inr (za6 OPg.o zac.o (by decide))));replace OB:=zhd (OB.o.kept M6.o.grown zac.o (by decide) (by decide));replace zac:=zwb M6;go_wp2
 have z0:=zap (P:=Tryz.prog) 56 zac.o zbM (by kernel_rfl);refine bodyPost_ret (by simp [results,Tryz.results35,asAddr,z0,Act.put]; rfl) rfl ?_;replace EW:=zwe M6 (zwe M5 EW zbl) zaZ;exact ⟨_,rfl,EW.o,_,_,_,rfl,⟨OPa.o,OB.o,OPg.o⟩⟩

theorem zf8 (c:Cn) (calls box got:Value) (w:World) (h1:zat 4 zdy w calls c.calls) (h2:zat 1 zck w box c.box) (h3:zat 2 zdU w got c.got) (hs:zlc c) :
  zaJ Tryz.prog 35 #[.agg #[calls,I c.at_,.bool c.sent,I c.gen,box,got]] w (fun _=>False) (fun r w'=>Agg zcA c r w') :=
 (zde c calls box got w h1 h2 h3 hs).to fun r w' he h=>by
  obtain ⟨_,_,_,rfl,ho⟩:=h
  exact ⟨_,rfl,he,zb1 (zcO (c:=c) ((zjn ho.calls).widen fun _ _ h=>.inr h) (ho.box.rd fun _ h _=>.inr h) ((zgt ho.got).widen fun _ _ h=>.inr h))⟩

end Go.Proofs.YtdmipnnfoolelagGreat

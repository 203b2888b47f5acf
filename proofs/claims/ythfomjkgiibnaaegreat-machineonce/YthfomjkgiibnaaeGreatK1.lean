/- Texts of the proof, merged: N10. -/
import Derived.Test.YthfomjkgiibnaaeGreatKA
import Derived.Test.YthfomjkgiibnaaeGreatKW
set_option maxHeartbeats 2000000
set_option maxRecDepth 100000

namespace Go.Proofs.YthfomjkgiibnaaeGreat
open Go.RowKit Go.Mk

theorem zmy (m : Mc) (c u a p box plan cl : Value) (kind : Int) (n : Int) (w : World) (A : Nat -> Prop) (h : RdM A w m c u a p box plan cl) (h1 : kind ≠ 1) (h2 : kind ≠ 2) (h3 : kind ≠ 3) (h4 : kind ≠ 4) :
  zaW Tryz.prog 11 #[.agg (za3 m c u a p box plan cl).toArray,.agg #[I kind,I n]] w A (fun r w'=>zgQ zd7 (doM m kind n).1 (doM m kind n).2 r w'):=by
 unfold zaW;obtain ⟨ca,cc,ua,uc,aa,ac,pa,pc,xa,xc,la,lc,ka,kc,rfl,rfl,rfl,rfl,rfl,rfl,rfl⟩:=h.slices;obtain ⟨⟨sc,su,sa,sp⟩,⟨gen,bl,busy,⟨nc,nt,⟨nk,na,no,nn⟩⟩,pl,⟨se,sn⟩⟩,up,pause,falls,cls⟩:=m;simp only [za3] at *;have EW:=hd (Ext.refl w);obtain ⟨B,hB⟩:=zdm A w.heap.size 3;have HK:=hd hB;clear hB;have H:=hd (h.widen HK.o.1);clear h
 have hX : doM ⟨⟨sc,su,sa,sp⟩,⟨gen,bl,busy,⟨nc,nt,⟨nk,na,no,nn⟩⟩,pl,⟨se,sn⟩⟩,up,pause,falls,cls⟩ kind n = (⟨⟨sc,su,sa,sp⟩,⟨gen,bl,busy,⟨nc,nt,⟨nk,na,no,nn⟩⟩,pl,⟨se,sn⟩⟩,up,pause,falls,cls⟩,1):=by
  unfold doM;rw [if_neg h1,if_neg h2,if_neg h3,if_neg h4]
 rw [hX];have e1 : (kind == 1) = false:=by simpa using h1
 have e2 : (kind == 2) = false:=by simpa using h2
 have e3 : (kind == 3) = false:=by simpa using h3
 have e4 : (kind == 4) = false:=by simpa using h4
 clear hX h1 h2 h3 h4;go_enter Tryz.func11,Tryz.ntmps11
 go_wp2_with ((with_reducible refine zT ?_ ?_); exact rfl)
 unfold Hid;refine zaj rfl 44 (.tmp 0) rfl #[.slice ca sc.length cc,.slice ua su.length uc,.slice aa sa.length ac,.slice pa sp.length pc,I gen,.slice xa bl.length xc,.bool busy,I nc,I nt,I nk,I na,I no,I nn,.slice la pl.length lc,I se,I sn,.bool up,I pause,I falls,.slice ka cls.length kc] rfl (fun b0 w1_ M1=>?_);have zab:=zmb M1;go_wp2_with ((with_reducible refine zT ?_ ?_); exact rfl)
 unfold Hid;refine zaj rfl 25 (.tmp 1) rfl #[I kind,I n] rfl (fun b1 w2_ M2=>?_);have zad:=zmb M2;go_wp2_with ((with_reducible refine zT ?_ ?_); exact rfl)
 unfold Hid;refine zae rfl 44 zM (by kernel_rfl) (fun b2 w3_ M3=>?_);replace zab:=zmo M2 zab;have zak:=zmb M3;have zaE:=zA0 M1;have zaJ:=zA1 zaE M1 M2;have zbP:=zA1 zaJ M2 M3;have zaD:=znb HK zbP (by decide);have zbc:=zob zbP;replace zad:=zmo M3 zad;have k0:=zaa (i:=0) zad.o rfl;go_wp2_with ((with_reducible refine zT ?_ ?_); exact rfl)
 unfold Hid;clear k0;replace zab:=zmo M3 zab;refine zah rfl 44 (.tmp 2) rfl b0 rfl zab zu44 zaP (fun v132 H_v132=>?_);go_wp2_with ((with_reducible refine zT ?_ ?_); exact rfl)
 unfold Hid;refine zac rfl 44 (.tmp 4) (.tmp 132) rfl b2 rfl _ (zcv H_v132) zak rfl zaP rfl (fun w4_ M4=>?_);replace zak:=zwb M4;go_wp2
 have z0:=zat (P:=Tryz.prog) 44 zak.o zu44 (by kernel_rfl);refine bodyPost_ret (by simp [results,Tryz.results11,asAddr,z0]; rfl) rfl ?_;replace H:=zHw M4 (hd ((hd ((hd (H.o.ext M1.o.ext)).o.ext M2.o.ext)).o.ext M3.o.ext)) zaD;replace EW:=zwe M4 (zet (zet (zet EW M1) M2) M3) zbc;exact ⟨_,rfl,EW.o,Rd.widen (A:=B) (zbB (RdM.mc (m:=⟨⟨sc,su,sa,sp⟩,⟨gen,bl,busy,⟨nc,nt,⟨nk,na,no,nn⟩⟩,pl,⟨se,sn⟩⟩,up,pause,falls,cls⟩) H.o)) (fun k _ h=>HK.o.2.2.2 k h)⟩

theorem zmC (m : Mc) (c u a p box plan cl : Value) (n : Int) (w : World) (A : Nat -> Prop) (h : RdM A w m c u a p box plan cl) (hf : 0 <= m.falls) :
  zaW Tryz.prog 11 #[.agg (za3 m c u a p box plan cl).toArray,.agg #[I 3,I n]] w A (fun r w'=>zgQ zd7 (doM m 3 n).1 (doM m 3 n).2 r w'):=by
 unfold zaW;obtain ⟨ca,cc,ua,uc,aa,ac,pa,pc,xa,xc,la,lc,ka,kc,rfl,rfl,rfl,rfl,rfl,rfl,rfl⟩:=h.slices;obtain ⟨⟨sc,su,sa,sp⟩,⟨gen,bl,busy,⟨nc,nt,⟨nk,na,no,nn⟩⟩,pl,⟨se,sn⟩⟩,up,pause,falls,cls⟩:=m;simp only [za3] at *;have EW:=hd (Ext.refl w);obtain ⟨B,hB⟩:=zdm A w.heap.size 3;have HK:=hd hB;clear hB;have H:=hd (h.widen HK.o.1);clear h;obtain ⟨FX,FE,hFM⟩ : ∃ x y,zc2 ⟨⟨sc,su,sa,sp⟩,⟨gen,bl,busy,⟨nc,nt,⟨nk,na,no,nn⟩⟩,pl,⟨se,sn⟩⟩,up,pause,falls,cls⟩ = (x,y):=⟨_,_,rfl⟩;have hX : doM ⟨⟨sc,su,sa,sp⟩,⟨gen,bl,busy,⟨nc,nt,⟨nk,na,no,nn⟩⟩,pl,⟨se,sn⟩⟩,up,pause,falls,cls⟩ 3 n = zc2 ⟨⟨sc,su,sa,sp⟩,⟨gen,bl,busy,⟨nc,nt,⟨nk,na,no,nn⟩⟩,pl,⟨se,sn⟩⟩,up,pause,falls,cls⟩:=rfl;rw [hX,hFM];have HFM:=hd hFM;clear hX hFM;go_enter Tryz.func11,Tryz.ntmps11
 go_wp2_with ((with_reducible refine zT ?_ ?_); exact rfl)
 unfold Hid;refine zaj rfl 44 (.tmp 0) rfl #[.slice ca sc.length cc,.slice ua su.length uc,.slice aa sa.length ac,.slice pa sp.length pc,I gen,.slice xa bl.length xc,.bool busy,I nc,I nt,I nk,I na,I no,I nn,.slice la pl.length lc,I se,I sn,.bool up,I pause,I falls,.slice ka cls.length kc] rfl (fun b0 w1_ M1=>?_);have zab:=zmb M1;go_wp2_with ((with_reducible refine zT ?_ ?_); exact rfl)
 unfold Hid;refine zaj rfl 25 (.tmp 1) rfl #[I 3,I n] rfl (fun b1 w2_ M2=>?_);have zad:=zmb M2;go_wp2_with ((with_reducible refine zT ?_ ?_); exact rfl)
 unfold Hid;refine zae rfl 44 zM (by kernel_rfl) (fun b2 w3_ M3=>?_);replace zab:=zmo M2 zab;have zak:=zmb M3;have zaE:=zA0 M1;have zaJ:=zA1 zaE M1 M2;have zbP:=zA1 zaJ M2 M3;have zaD:=znb HK zbP (by decide);have zbc:=zob zbP;replace zad:=zmo M3 zad;have k0:=zaa (i:=0) zad.o rfl;go_wp2_with ((with_reducible refine zT ?_ ?_); exact rfl)
 unfold Hid;clear k0;replace zab:=zmo M3 zab;refine zah rfl 44 (.tmp 2) rfl b0 rfl zab zu44 zaP (fun v124 H_v124=>?_);go_wp2_with fail
 rw [show _ = Value.agg #[.slice ca sc.length cc,.slice ua su.length uc,.slice aa sa.length ac,.slice pa sp.length pc,I gen,.slice xa bl.length xc,.bool busy,I nc,I nt,I nk,I na,I no,I nn,.slice la pl.length lc,I se,I sn,.bool up,I pause,I falls,.slice ka cls.length kc] from H_v124.o];replace H:=hd ((hd ((hd (H.o.ext M1.o.ext)).o.ext M2.o.ext)).o.ext M3.o.ext);refine (zjS ⟨⟨sc,su,sa,sp⟩,⟨gen,bl,busy,⟨nc,nt,⟨nk,na,no,nn⟩⟩,pl,⟨se,sn⟩⟩,up,pause,falls,cls⟩ _ _ _ _ _ _ _ w3_ B H.o hf).to fun r w9 e9 hr=>?_;rw [HFM.o] at hr;obtain ⟨cs,rfl,hcs⟩:=zdR hr;obtain ⟨c',u',a',p',box',plan',cl',rfl,hm⟩:=zcP hcs;obtain ⟨ca',cc',ua',uc',aa',ac',pa',pc',xa',xc',la',lc',ka',kc',rfl,rfl,rfl,rfl,rfl,rfl,rfl⟩:=hm.slices;have hsz : w.heap.size + 3 <= w3_.heap.size:=by have q:=(zlt zak); have q2:=zbP.o; omega
 have HM:=hd (hm.widen (B:=B) (fun k _ h=>by
  rcases h with h | h
  ·exact h
  ·exact HK.o.2.1 k (by omega)))
 clear hr hcs hm hsz;go_wp2_with ((with_reducible refine zT ?_ ?_); exact rfl)
 unfold Hid;replace zak:=zbx zak e9;refine zac rfl 44 (.tmp 4) (.tmp 126) rfl b2 rfl [.slice ca' (FX).store.cells.length cc',.slice ua' (FX).store.undo.length uc',.slice aa' (FX).store.answers.length ac',.slice pa' (FX).store.past.length pc',I (FX).server.gen,.slice xa' (FX).server.box.length xc',.bool (FX).server.busy,I (FX).server.now.client,I (FX).server.now.token,I (FX).server.now.call.kind,I (FX).server.now.call.name,I (FX).server.now.call.other,I (FX).server.now.call.n,.slice la' (FX).server.plan.length lc',I (FX).server.says.err,I (FX).server.says.n,.bool (FX).up,I (FX).pause,I (FX).falls,.slice ka' (FX).clients.length kc'] (rfl) zak rfl zaP rfl (fun w4_ M4=>?_);replace zak:=zwb M4;go_wp2
 have z0:=zat (P:=Tryz.prog) 44 zak.o zu44 (by kernel_rfl);refine bodyPost_ret (by simp [results,Tryz.results11,asAddr,z0]; rfl) rfl ?_;replace EW:=zwe M4 (hd ((zet (zet (zet EW M1) M2) M3).o.trans e9)) zbc;replace HM:=zHw M4 HM zaD;exact ⟨_,rfl,EW.o,Rd.widen (A:=B) (zbB (RdM.mc (m:=FX) HM.o)) (fun k _ h=>HK.o.2.2.2 k h)⟩

theorem zmI (m : Mc) (c u a p box plan cl : Value) (n : Int) (w : World) (A : Nat -> Prop) (h : RdM A w m c u a p box plan cl) (hr : m.store.cells.length * 8 <= 140737488355328) (hg : 0 <= m.server.gen /\ m.server.gen <= 1000000) (hpz : 0 <= m.pause /\ m.pause <= 1000000) :
  zaW Tryz.prog 11 #[.agg (za3 m c u a p box plan cl).toArray,.agg #[I 4,I n]] w A (fun r w'=>zgQ zd7 (doM m 4 n).1 (doM m 4 n).2 r w'):=by
 unfold zaW;obtain ⟨ca,cc,ua,uc,aa,ac,pa,pc,xa,xc,la,lc,ka,kc,rfl,rfl,rfl,rfl,rfl,rfl,rfl⟩:=h.slices;obtain ⟨⟨sc,su,sa,sp⟩,⟨gen,bl,busy,⟨nc,nt,⟨nk,na,no,nn⟩⟩,pl,⟨se,sn⟩⟩,up,pause,falls,cls⟩:=m;simp only [za3] at *;have EW:=hd (Ext.refl w);obtain ⟨B,hB⟩:=zdm A w.heap.size 3;have HK:=hd hB;clear hB;have H:=hd (h.widen HK.o.1);clear h;obtain ⟨FX,hFM⟩ : ∃ x,zdW ⟨⟨sc,su,sa,sp⟩,⟨gen,bl,busy,⟨nc,nt,⟨nk,na,no,nn⟩⟩,pl,⟨se,sn⟩⟩,up,pause,falls,cls⟩ = x:=⟨_,rfl⟩;have hX : doM ⟨⟨sc,su,sa,sp⟩,⟨gen,bl,busy,⟨nc,nt,⟨nk,na,no,nn⟩⟩,pl,⟨se,sn⟩⟩,up,pause,falls,cls⟩ 4 n = (zdW ⟨⟨sc,su,sa,sp⟩,⟨gen,bl,busy,⟨nc,nt,⟨nk,na,no,nn⟩⟩,pl,⟨se,sn⟩⟩,up,pause,falls,cls⟩,0):=rfl;rw [hX,hFM];have HFM:=hd hFM;clear hX hFM;go_enter Tryz.func11,Tryz.ntmps11
 go_wp2_with ((with_reducible refine zT ?_ ?_); exact rfl)
 unfold Hid;refine zaj rfl 44 (.tmp 0) rfl #[.slice ca sc.length cc,.slice ua su.length uc,.slice aa sa.length ac,.slice pa sp.length pc,I gen,.slice xa bl.length xc,.bool busy,I nc,I nt,I nk,I na,I no,I nn,.slice la pl.length lc,I se,I sn,.bool up,I pause,I falls,.slice ka cls.length kc] rfl (fun b0 w1_ M1=>?_);have zab:=zmb M1;go_wp2_with ((with_reducible refine zT ?_ ?_); exact rfl)
 unfold Hid;refine zaj rfl 25 (.tmp 1) rfl #[I 4,I n] rfl (fun b1 w2_ M2=>?_);have zad:=zmb M2;go_wp2_with ((with_reducible refine zT ?_ ?_); exact rfl)
 unfold Hid;refine zae rfl 44 zM (by kernel_rfl) (fun b2 w3_ M3=>?_);replace zab:=zmo M2 zab;have zak:=zmb M3;have zaE:=zA0 M1;have zaJ:=zA1 zaE M1 M2;have zbP:=zA1 zaJ M2 M3;have zaD:=znb HK zbP (by decide);have zbc:=zob zbP;replace zad:=zmo M3 zad;have k0:=zaa (i:=0) zad.o rfl;go_wp2_with ((with_reducible refine zT ?_ ?_); exact rfl)
 unfold Hid;clear k0;replace zab:=zmo M3 zab;refine zah rfl 44 (.tmp 2) rfl b0 rfl zab zu44 zaP (fun v130 H_v130=>?_);go_wp2_with fail
 rw [show _ = Value.agg #[.slice ca sc.length cc,.slice ua su.length uc,.slice aa sa.length ac,.slice pa sp.length pc,I gen,.slice xa bl.length xc,.bool busy,I nc,I nt,I nk,I na,I no,I nn,.slice la pl.length lc,I se,I sn,.bool up,I pause,I falls,.slice ka cls.length kc] from H_v130.o];replace H:=hd ((hd ((hd (H.o.ext M1.o.ext)).o.ext M2.o.ext)).o.ext M3.o.ext);refine (zj0 ⟨⟨sc,su,sa,sp⟩,⟨gen,bl,busy,⟨nc,nt,⟨nk,na,no,nn⟩⟩,pl,⟨se,sn⟩⟩,up,pause,falls,cls⟩ _ _ _ _ _ _ _ w3_ B H.o hr hg hpz).to fun r w9 e9 hr=>?_;rw [HFM.o] at hr;obtain ⟨cs,rfl,hcs⟩:=zb7 hr;obtain ⟨c',u',a',p',box',plan',cl',rfl,hm⟩:=zcP hcs;obtain ⟨ca',cc',ua',uc',aa',ac',pa',pc',xa',xc',la',lc',ka',kc',rfl,rfl,rfl,rfl,rfl,rfl,rfl⟩:=hm.slices;have hsz : w.heap.size + 3 <= w3_.heap.size:=by have q:=(zlt zak); have q2:=zbP.o; omega
 have HM:=hd (hm.widen (B:=B) (fun k _ h=>by
  rcases h with h | h
  ·exact h
  ·exact HK.o.2.1 k (by omega)))
 clear hr hcs hm hsz;go_wp2_with ((with_reducible refine zT ?_ ?_); exact rfl)
 unfold Hid;replace zak:=zbx zak e9;refine zac rfl 44 (.tmp 4) (.tmp 131) rfl b2 rfl [.slice ca' (FX).store.cells.length cc',.slice ua' (FX).store.undo.length uc',.slice aa' (FX).store.answers.length ac',.slice pa' (FX).store.past.length pc',I (FX).server.gen,.slice xa' (FX).server.box.length xc',.bool (FX).server.busy,I (FX).server.now.client,I (FX).server.now.token,I (FX).server.now.call.kind,I (FX).server.now.call.name,I (FX).server.now.call.other,I (FX).server.now.call.n,.slice la' (FX).server.plan.length lc',I (FX).server.says.err,I (FX).server.says.n,.bool (FX).up,I (FX).pause,I (FX).falls,.slice ka' (FX).clients.length kc'] (rfl) zak rfl zaP rfl (fun w4_ M4=>?_);replace zak:=zwb M4;go_wp2
 have z0:=zat (P:=Tryz.prog) 44 zak.o zu44 (by kernel_rfl);refine bodyPost_ret (by simp [results,Tryz.results11,asAddr,z0]; rfl) rfl ?_;replace EW:=zwe M4 (hd ((zet (zet (zet EW M1) M2) M3).o.trans e9)) zbc;replace HM:=zHw M4 HM zaD;exact ⟨_,rfl,EW.o,Rd.widen (A:=B) (zbB (RdM.mc (m:=FX) HM.o)) (fun k _ h=>HK.o.2.2.2 k h)⟩

end Go.Proofs.YthfomjkgiibnaaeGreat

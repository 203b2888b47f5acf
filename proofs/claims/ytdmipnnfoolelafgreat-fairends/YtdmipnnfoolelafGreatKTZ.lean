/- Texts of the proof, merged: N12 N13 N14. -/
import Derived.Test.YtdmipnnfoolelafGreatKTA
import Derived.Test.YtdmipnnfoolelafGreatKTY
import Derived.Deep.DeepCutAuto
import Derived.Test.YtdmipnnfoolelafGreatKTF
set_option maxHeartbeats 2000000
set_option maxRecDepth 100000

namespace Go.Proofs.YtdmipnnfoolelafGreat
open Go.RowKit Go.Mk

theorem zj4 (m:Mc) (c u a p box plan cl:Value) (n:Int) (w:World) (A:Nat->Prop) (h:RdM A w m c u a p box plan cl) (hn:n < 0∨(m.clients.length:Int)<=n) :
  zaK Tryz.prog 20 #[.agg (zaH m c u a p box plan cl).toArray,.agg #[I 1,I n]] w A (fun r w'=>zgz zc1 (doM m 1 n).1 (doM m 1 n).2 r w'):=by
 unfold zaK;obtain ⟨ca,cc,ua,uc,aa,ac,pa,pc,xa,xc,la,lc,ka,kc,rfl,rfl,rfl,rfl,rfl,rfl,rfl⟩:=h.slices;obtain ⟨⟨sc,su,sa,sp⟩,⟨gen,bl,busy,⟨nc,nt,⟨nk,na,no,nn⟩⟩,pl,⟨se,sn⟩⟩,up,pause,falls,cls⟩:=m;simp only [zaH] at *;have EW:=zhd (Ext.refl w);obtain ⟨B,hB⟩:=zdF A w.heap.size 3;have HK:=zhd hB;clear hB;have H:=zhd (h.widen HK.o.1);clear h
 have hX:doM ⟨⟨sc,su,sa,sp⟩,⟨gen,bl,busy,⟨nc,nt,⟨nk,na,no,nn⟩⟩,pl,⟨se,sn⟩⟩,up,pause,falls,cls⟩ 1 n=(⟨⟨sc,su,sa,sp⟩,⟨gen,bl,busy,⟨nc,nt,⟨nk,na,no,nn⟩⟩,pl,⟨se,sn⟩⟩,up,pause,falls,cls⟩,6):=by
  unfold doM;rw [if_pos rfl,if_pos hn]
 rw [hX];clear hX;by_cases h0:n < 0
 case pos =>
  clear hn;go_enter Tryz.func20,Tryz.ntmps20
  go_wp2_with (with_reducible refine zT ?_)
  refine zaj rfl 44 (.tmp 0) rfl #[.slice ca sc.length cc,.slice ua su.length uc,.slice aa sa.length ac,.slice pa sp.length pc,I gen,.slice xa bl.length xc,.bool busy,I nc,I nt,I nk,I na,I no,I nn,.slice la pl.length lc,I se,I sn,.bool up,I pause,I falls,.slice ka cls.length kc] rfl (fun b0 w1_ M1=>?_);have zab:=zmb M1;go_wp2_with (with_reducible refine zT ?_)
  refine zaj rfl 49 (.tmp 1) rfl #[I 1,I n] rfl (fun b1 w2_ M2=>?_);have zad:=zmb M2;go_wp2_with (with_reducible refine zT ?_)
  refine zae rfl 44 zM (by kernel_rfl) (fun b2 w3_ M3=>?_);replace zab:=zmo M2 zab;have zak:=zmb M3;have za0:=zA0 M1;have za2:=zA1 za0 M1 M2;have zcd:=zA1 za2 M2 M3;have zaO:=znb HK zcd (by decide);have zbp:=zob zcd;replace zad:=zmo M3 zad;have k0:=zaa (i:=0) zad.o rfl;have k1:=zaa (i:=1) zad.o rfl;go_wp2_with (with_reducible refine zT ?_)
  clear k0 k1;replace zab:=zmo M3 zab;refine zah rfl 44 (.tmp 2) rfl b0 rfl zab zaS zaG (fun v31 H_v31=>?_);go_wp2_with (with_reducible refine zT ?_)
  refine zac rfl 44 (.tmp 4) (.tmp 31) rfl b2 rfl _ (zcv H_v31) zak rfl zaG rfl (fun w4_ M4=>?_);replace zak:=zwb M4;go_wp2
  have z0:=zaq (P:=Tryz.prog) 44 zak.o zaS (by kernel_rfl);refine bodyPost_ret (by simp [results,Tryz.results20,asAddr,z0]; rfl) rfl ?_;replace H:=zHw M4 (zhd ((zhd ((zhd (H.o.ext M1.o.ext)).o.ext M2.o.ext)).o.ext M3.o.ext)) zaO;replace EW:=zwe M4 (zet (zet (zet EW M1) M2) M3) zbp;exact ⟨_,rfl,EW.o,Rd.widen (A:=B) (zbT (RdM.mc (m:=⟨⟨sc,su,sa,sp⟩,⟨gen,bl,busy,⟨nc,nt,⟨nk,na,no,nn⟩⟩,pl,⟨se,sn⟩⟩,up,pause,falls,cls⟩) H.o)) (fun k _ h=>HK.o.2.2.2 k h)⟩
 have hge:(cls.length:Int)<=n:=by
  rcases hn with h | h
  ·exact absurd h h0
  ·exact h
 clear hn;go_enter Tryz.func20,Tryz.ntmps20
 go_wp2_with (with_reducible refine zT ?_)
 refine zaj rfl 44 (.tmp 0) rfl #[.slice ca sc.length cc,.slice ua su.length uc,.slice aa sa.length ac,.slice pa sp.length pc,I gen,.slice xa bl.length xc,.bool busy,I nc,I nt,I nk,I na,I no,I nn,.slice la pl.length lc,I se,I sn,.bool up,I pause,I falls,.slice ka cls.length kc] rfl (fun b0 w1_ M1=>?_);have zab:=zmb M1;go_wp2_with (with_reducible refine zT ?_)
 refine zaj rfl 49 (.tmp 1) rfl #[I 1,I n] rfl (fun b1 w2_ M2=>?_);have zad:=zmb M2;go_wp2_with (with_reducible refine zT ?_)
 refine zae rfl 44 zM (by kernel_rfl) (fun b2 w3_ M3=>?_);replace zab:=zmo M2 zab;have zak:=zmb M3;have za0:=zA0 M1;have za2:=zA1 za0 M1 M2;have zcd:=zA1 za2 M2 M3;have zaO:=znb HK zcd (by decide);have zbp:=zob zcd;replace zad:=zmo M3 zad;have k0:=zaa (i:=0) zad.o rfl;have k1:=zaa (i:=1) zad.o rfl;replace zab:=zmo M3 zab;have c19:=zaa (i:=19) zab.o rfl;go_wp2_with (with_reducible refine zT ?_)
 clear k0 k1 c19;refine zah rfl 44 (.tmp 2) rfl b0 rfl zab zaS zaG (fun v31 H_v31=>?_);go_wp2_with (with_reducible refine zT ?_)
 refine zac rfl 44 (.tmp 4) (.tmp 31) rfl b2 rfl _ (zcv H_v31) zak rfl zaG rfl (fun w4_ M4=>?_);replace zak:=zwb M4;go_wp2
 have z0:=zaq (P:=Tryz.prog) 44 zak.o zaS (by kernel_rfl);refine bodyPost_ret (by simp [results,Tryz.results20,asAddr,z0]; rfl) rfl ?_;replace H:=zHw M4 (zhd ((zhd ((zhd (H.o.ext M1.o.ext)).o.ext M2.o.ext)).o.ext M3.o.ext)) zaO;replace EW:=zwe M4 (zet (zet (zet EW M1) M2) M3) zbp;exact ⟨_,rfl,EW.o,Rd.widen (A:=B) (zbT (RdM.mc (m:=⟨⟨sc,su,sa,sp⟩,⟨gen,bl,busy,⟨nc,nt,⟨nk,na,no,nn⟩⟩,pl,⟨se,sn⟩⟩,up,pause,falls,cls⟩) H.o)) (fun k _ h=>HK.o.2.2.2 k h)⟩

theorem zlw (m:Mc) (c u a p box plan cl:Value) (n:Int) (w:World) (A:Nat->Prop) (h:RdM A w m c u a p box plan cl) (hn:0<=n/\n < (m.clients.length:Int)) (hl:m.clients.length<=1000) (hcs:∀ c ∈ m.clients,0<=c.at_/\c.at_<=1000000/\c.got.length<=1000) (hbx:m.server.box.length<=1000) :
  zaK Tryz.prog 20 #[.agg (zaH m c u a p box plan cl).toArray,.agg #[I 1,I n]] w A (fun r w'=>zgz zc1 (doM m 1 n).1 (doM m 1 n).2 r w'):=by
 unfold zaK;obtain ⟨ca,cc,ua,uc,aa,ac,pa,pc,xa,xc,la,lc,ka,kc,rfl,rfl,rfl,rfl,rfl,rfl,rfl⟩:=h.slices;obtain ⟨⟨sc,su,sa,sp⟩,⟨gen,bl,busy,⟨nc,nt,⟨nk,na,no,nn⟩⟩,pl,⟨se,sn⟩⟩,up,pause,falls,cls⟩:=m;simp only [zaH] at *;have EW:=zhd (Ext.refl w);obtain ⟨B,hB⟩:=zdF A w.heap.size 3;have HK:=zhd hB;clear hB;have H:=zhd (h.widen HK.o.1);clear h;obtain ⟨j,rfl⟩:∃ j:Nat,n=(j:Int):=⟨n.toNat,by omega⟩;have hkl:j < cls.length:=by omega
 have hj1:(j:Int) < (cls.length:Int):=by omega
 have hj0:¬ ((j:Int) < 0):=by omega
 have hj2:¬ ((cls.length:Int)<=(j:Int)):=by omega
 have hj3:(0:Int)<=(j:Int):=by omega
 obtain ⟨css,hcs2⟩:=zdk (by decide) H.o.clients;have HCS:=zhd hcs2.left;have HRW:=zhd hcs2.right;clear hcs2;obtain ⟨c6,cx,hc6,hcx,hc6l⟩:=zfq HCS.o.o hkl;have hgd:cls.getD j (zbO [])=cx:=by simp [hcx]
 have HCX:=zhd (zeN HCS.o hc6 hcx);have HCB:=zhd (hcs cx (List.mem_of_getElem? hcx));obtain ⟨kcalls,kbox,kgot,hk6,q1,q2,q3⟩:=zd2 HCX.o;subst hk6
 obtain ⟨kb,ko,hka⟩:∃ b o,ka=some ⟨b,o,none⟩:=by
  obtain ⟨_,_,e1,_,_,_,hf⟩:=H.o.clients.o.form (by decide);simp only [Value.slice.injEq,true_and] at e1;obtain ⟨rfl,rfl⟩:=e1;obtain ⟨b,o,_,e2,_⟩:=hf _ _ hcx;exact ⟨b,o,e2⟩
 subst hka;have HRG:=zhd (HRW.o.imp fun w hw=>zd3 (by decide) hw HCS.o.o.sizes hc6);obtain ⟨kl,kat,ksent,kgen,kbl,kgl⟩:=cx;obtain ⟨⟨ol,oat,osent,ogen,xl,gl⟩,CB,CE,hGC⟩:∃ x y z,zcy ⟨kl,kat,ksent,kgen,kbl,kgl⟩ (j:Int) gen up=(x,y,z):=⟨_,_,_,rfl⟩;obtain ⟨VX,VE,hVX⟩:∃ x y,zbY ⟨gen,bl,busy,⟨nc,nt,⟨nk,na,no,nn⟩⟩,pl,⟨se,sn⟩⟩ CB=(x,y):=⟨_,_,rfl⟩
 have hX:doM ⟨⟨sc,su,sa,sp⟩,⟨gen,bl,busy,⟨nc,nt,⟨nk,na,no,nn⟩⟩,pl,⟨se,sn⟩⟩,up,pause,falls,cls⟩ 1 (j:Int)=if CE≠0 then (⟨⟨sc,su,sa,sp⟩,⟨gen,bl,busy,⟨nc,nt,⟨nk,na,no,nn⟩⟩,pl,⟨se,sn⟩⟩,up,pause,falls,cls⟩,CE) else if CB≠[] then (if VE≠0 then (⟨⟨sc,su,sa,sp⟩,⟨gen,bl,busy,⟨nc,nt,⟨nk,na,no,nn⟩⟩,pl,⟨se,sn⟩⟩,up,pause,falls,cls⟩,VE) else (⟨⟨sc,su,sa,sp⟩,VX,up,pause,falls,(cls.set j ⟨ol,oat,osent,ogen,xl,gl⟩)⟩,0)) else (⟨⟨sc,su,sa,sp⟩,⟨gen,bl,busy,⟨nc,nt,⟨nk,na,no,nn⟩⟩,pl,⟨se,sn⟩⟩,up,pause,falls,(cls.set j ⟨ol,oat,osent,ogen,xl,gl⟩)⟩,0):=by
  unfold doM;rw [if_pos rfl,if_neg (by simp only []; omega)];simp only [Int.toNat_natCast,hgd,hGC,hVX]
 obtain ⟨RX,RE,hRES⟩:∃ x y,doM ⟨⟨sc,su,sa,sp⟩,⟨gen,bl,busy,⟨nc,nt,⟨nk,na,no,nn⟩⟩,pl,⟨se,sn⟩⟩,up,pause,falls,cls⟩ 1 (j:Int)=(x,y):=⟨_,_,rfl⟩;rw [hRES];rw [hX] at hRES
 have HRES:Hid ((CE≠0->(⟨⟨sc,su,sa,sp⟩,⟨gen,bl,busy,⟨nc,nt,⟨nk,na,no,nn⟩⟩,pl,⟨se,sn⟩⟩,up,pause,falls,cls⟩,CE)=(RX,RE))/\(CE=0->CB=[]->(⟨⟨sc,su,sa,sp⟩,⟨gen,bl,busy,⟨nc,nt,⟨nk,na,no,nn⟩⟩,pl,⟨se,sn⟩⟩,up,pause,falls,(cls.set j ⟨ol,oat,osent,ogen,xl,gl⟩)⟩,0)=(RX,RE))/\(CE=0->CB≠[]->VE≠0->(⟨⟨sc,su,sa,sp⟩,⟨gen,bl,busy,⟨nc,nt,⟨nk,na,no,nn⟩⟩,pl,⟨se,sn⟩⟩,up,pause,falls,cls⟩,VE)=(RX,RE))/\(CE=0->CB≠[]->VE=0->(⟨⟨sc,su,sa,sp⟩,VX,up,pause,falls,(cls.set j ⟨ol,oat,osent,ogen,xl,gl⟩)⟩,0)=(RX,RE))):=by
  refine ⟨fun h=>?_,fun h h2=>?_,fun h h2 h3=>?_,fun h h2 h3=>?_⟩
  ·rwa [if_pos h] at hRES
  ·rwa [if_neg (by simpa using h),if_neg (by simpa using h2)] at hRES
  ·rwa [if_neg (by simpa using h),if_pos h2,if_pos h3] at hRES
  ·rwa [if_neg (by simpa using h),if_pos h2,if_neg (by simpa using h3)] at hRES
 clear hRES;have HC1:=zhd q1;have HC2:=zhd q2;have HC3:=zhd q3;have HGC:=zhd hGC;have HVX:=zhd hVX;have HQ:=zhd (And.intro hkl (And.intro hl hbx));clear hgd hc6 hcx hc6l HRW HCS HCX q1 q2 q3 hGC hVX hX hkl hl hbx hcs hn;simp only [] at *;go_enter Tryz.func20,Tryz.ntmps20
 go_wp2_with (with_reducible refine zT ?_)
 refine zaj rfl 44 (.tmp 0) rfl #[.slice ca sc.length cc,.slice ua su.length uc,.slice aa sa.length ac,.slice pa sp.length pc,I gen,.slice xa bl.length xc,.bool busy,I nc,I nt,I nk,I na,I no,I nn,.slice la pl.length lc,I se,I sn,.bool up,I pause,I falls,.slice (some ⟨kb,ko,none⟩) cls.length kc] rfl (fun b0 w1_ M1=>?_);have zab:=zmb M1;go_wp2_with (with_reducible refine zT ?_)
 refine zaj rfl 49 (.tmp 1) rfl #[I 1,I j] rfl (fun b1 w2_ M2=>?_);have zaw:=zld zab M2;have zad:=zmb M2;go_wp2_with (with_reducible refine zT ?_)
 refine zae rfl 44 zM (by kernel_rfl) (fun b2 w3_ M3=>?_);replace zab:=zmo M2 zab;have zaU:=zld zab M3;have zak:=zmb M3;have za0:=zA0 M1;have zaF:=znb HK za0 (by decide);have zbm:=zob za0;have za2:=zA1 za0 M1 M2;have zat:=znb HK za2 (by decide);have zcd:=zA1 za2 M2 M3;have zaO:=znb HK zcd (by decide);have zbp:=zob zcd;replace zad:=zmo M3 zad;have k0:=zaa (i:=0) zad.o rfl;have k1:=zaa (i:=1) zad.o rfl;replace zab:=zmo M3 zab;have c19:=zaa (i:=19) zab.o rfl;go_upto_region 5 with fail
 clear k0 k1 c19;have hszk:w.heap.size+3<=w3_.heap.size:=by have q:=(zlt zak); have q2:=zcd.o; omega
 have HSZK:=zhd hszk;clear hszk;replace H:=zhd ((zhd ((zhd (H.o.ext M1.o.ext)).o.ext M2.o.ext)).o.ext M3.o.ext);replace HC1:=zme M3 (zme M2 (zme M1 HC1));replace HC2:=zme M3 (zme M2 (zme M1 HC2));replace HC3:=zme M3 (zme M2 (zme M1 HC3));replace HRG:=zme M3 (zme M2 (zme M1 HRG));replace EW:=zet (zet (zet EW M1) M2) M3;go_cut [6,7,8] (fun p6 b7 e8 wc=>∃ (b3:Nat) (cs:List Value),p6=.pointer (some ⟨b3,0,none⟩)/\e8=I CE/\w3_.heap.size<=b3/\wc.heap[b3]?=some (.cells cs.toArray 55 (0,0))/\Ext w3_ wc/\Rd (fun k=>B k/\k≠b3) (fun w=>zcC w cs ⟨ol,oat,osent,ogen,xl,gl⟩) wc/\Rd (fun k=>B k/\k≠b3) (fun w=>zbd w b7 CB) wc)
 case first =>
  go_wp2_with fail
  refine zbk (S:=fun w'=>w'.heap[b0]?=some (.cells #[.slice ca sc.length cc,.slice ua su.length uc,.slice aa sa.length ac,.slice pa sp.length pc,I gen,.slice xa bl.length xc,.bool busy,I nc,I nt,I nk,I na,I no,I nn,.slice la pl.length lc,I se,I sn,.bool up,I pause,I falls,.slice (some ⟨kb,ko,none⟩) cls.length kc] 44 (0,0))/\w'.heap[b1]?=some (.cells #[I 1,I j] 49 (0,0))/\w'.rangeAt kb (ko+j * 6) [kcalls,I kat,.bool ksent,I kgen,kbox,kgot]) (by kernel_rfl) (fun wd ed _=>?_);have hlek:w3_.heap.size<=wd.heap.size:=ed.size;have HED:=zhd ed;have HLEK:=zhd hlek;clear hlek;replace zab:=zbx zab ed;replace zad:=zbx zad ed;replace HRG:=zrx HRG ed;have HSS:Hid (wd.heap[b0]?=some (.cells #[.slice ca sc.length cc,.slice ua su.length uc,.slice aa sa.length ac,.slice pa sp.length pc,I gen,.slice xa bl.length xc,.bool busy,I nc,I nt,I nk,I na,I no,I nn,.slice la pl.length lc,I se,I sn,.bool up,I pause,I falls,.slice (some ⟨kb,ko,none⟩) cls.length kc] 44 (0,0))/\wd.heap[b1]?=some (.cells #[I 1,I j] 49 (0,0))/\wd.rangeAt kb (ko+j * 6) [kcalls,I kat,.bool ksent,I kgen,kbox,kgot]):=⟨zab.o,zad.o,HRG.o.o⟩;refine zar 0 rfl (by kernel_rfl) (by kernel_rfl) (by kernel_rfl) (fun _ _ _ _ h=>h) rfl HSS.o (fun K hK=>?_); go_simp; refine hK _ ?_; clear hK K;refine zbv 1 rfl (by kernel_rfl) (by kernel_rfl) (by kernel_rfl) (fun _ _ _ _ h=>h) (.slice (some ⟨kb,ko,none⟩) cls.length kc) rfl (fun w' hS=>by have q0:=zaa (i:=19) hS.1 rfl; go_simp) HSS.o ?_;refine zaf fun K h=>?_; go_simp; refine h _ ?_; clear h K;refine zar 2 rfl (by kernel_rfl) (by kernel_rfl) (by kernel_rfl) (fun _ _ _ _ h=>h) rfl HSS.o (fun K hK=>?_); go_simp; refine hK _ ?_; clear hK K;refine zbv 3 rfl (by kernel_rfl) (by kernel_rfl) (by kernel_rfl) (fun _ _ _ _ h=>h) (I j) rfl (fun w' hS=>by have q0:=zaa (i:=1) hS.2.1 rfl; go_simp) HSS.o ?_;refine zaf fun K h=>?_; go_simp; refine h _ ?_; clear h K;refine zar 4 rfl (by kernel_rfl) (by kernel_rfl) (by kernel_rfl) (fun _ _ _ _ h=>h) rfl HSS.o (fun K hK=>?_); go_simp; refine hK _ ?_; clear hK K;refine zbv 5 rfl (by kernel_rfl) (by kernel_rfl) (by kernel_rfl) (fun _ _ _ _ h=>h) (.agg #[kcalls,I kat,.bool ksent,I kgen,kbox,kgot]) rfl (fun w' hS=>zfR 55 (.tmp 37) rfl kb (ko+j * 6) rfl [kcalls,I kat,.bool ksent,I kgen,kbox,kgot] hS.2.2 zbN (by kernel_rfl)) HSS.o ?_;refine zaf fun K h=>?_; go_simp; refine h _ ?_; clear h K;refine zar 6 rfl (by kernel_rfl) (by kernel_rfl) (by kernel_rfl) (fun _ _ _ _ h=>h) rfl HSS.o (fun K hK=>?_); go_simp; refine hK _ ?_; clear hK K;refine zbv 7 rfl (by kernel_rfl) (by kernel_rfl) (by kernel_rfl) (fun _ _ _ _ h=>h) (I j) rfl (fun w' hS=>by have q0:=zaa (i:=1) hS.2.1 rfl; go_simp) HSS.o ?_;refine zaf fun K h=>?_; go_simp; refine h _ ?_; clear h K
  refine zar 8 rfl (by kernel_rfl) (by kernel_rfl) (by kernel_rfl) (fun _ _ _ _ h=>h) rfl HSS.o (fun K hK=>?_); go_simp; refine hK _ ?_; clear hK K;refine zar 9 rfl (by kernel_rfl) (by kernel_rfl) (by kernel_rfl) (fun _ _ _ _ h=>h) rfl HSS.o (fun K hK=>?_); go_simp; refine hK _ ?_; clear hK K;refine zbv 10 rfl (by kernel_rfl) (by kernel_rfl) (by kernel_rfl) (fun _ _ _ _ h=>h) (I gen) rfl (fun w' hS=>by have q0:=zaa (i:=4) hS.1 rfl; go_simp) HSS.o ?_;refine zaf fun K h=>?_; go_simp; refine h _ ?_; clear h K;refine zar 11 rfl (by kernel_rfl) (by kernel_rfl) (by kernel_rfl) (fun _ _ _ _ h=>h) rfl HSS.o (fun K hK=>?_); go_simp; refine hK _ ?_; clear hK K;refine zbv 12 rfl (by kernel_rfl) (by kernel_rfl) (by kernel_rfl) (fun _ _ _ _ h=>h) (.bool up) rfl (fun w' hS=>by have q0:=zaa (i:=16) hS.1 rfl; go_simp) HSS.o ?_;refine zaf fun K h=>?_; go_simp; refine h _ ?_; clear h K;replace zak:=zbx zak ed;replace H:=zhd (H.o.ext ed);replace HC1:=zrx HC1 ed;replace HC2:=zrx HC2 ed;replace HC3:=zrx HC3 ed;replace EW:=zhd (EW.o.trans ed);refine zfI 13 18 (by kernel_rfl) ?_ ?_
  ·refine zdz rfl rfl 34 #[.agg #[kcalls,I kat,.bool ksent,I kgen,kbox,kgot],I j,I gen,.bool up] (by go_simp) ?_;refine (zfk ⟨kl,kat,ksent,kgen,kbl,kgl⟩ kcalls kbox kgot j gen up wd B HC1.o HC2.o HC3.o HCB.o.1 HCB.o.2.1 HCB.o.2.2).to fun r wg eg hr=>?_;rw [HGC.o] at hr;simp only [] at hr;obtain ⟨cs,bv,rfl,hcs,hbv⟩:=zjc hr;obtain ⟨n1,n2,n3,rfl,r1,r2,r3⟩:=zd2 hcs;obtain ⟨na1,nc1,rfl⟩:=zag r1.o;obtain ⟨na2,nc2,rfl⟩:=zag r2.o;obtain ⟨na3,nc3,rfl⟩:=zag r3.o;clear r1 r2 r3 hr;clear HSS;replace zab:=zbx zab eg;replace zad:=zbx zad eg;replace HRG:=zrx HRG eg;refine ⟨_,rfl,⟨zab.o,zad.o,HRG.o.o⟩,?_⟩;have HSS:Hid (wg.heap[b0]?=some (.cells #[.slice ca sc.length cc,.slice ua su.length uc,.slice aa sa.length ac,.slice pa sp.length pc,I gen,.slice xa bl.length xc,.bool busy,I nc,I nt,I nk,I na,I no,I nn,.slice la pl.length lc,I se,I sn,.bool up,I pause,I falls,.slice (some ⟨kb,ko,none⟩) cls.length kc] 44 (0,0))/\wg.heap[b1]?=some (.cells #[I 1,I j] 49 (0,0))/\wg.rangeAt kb (ko+j * 6) [kcalls,I kat,.bool ksent,I kgen,kbox,kgot]):=⟨zab.o,zad.o,HRG.o.o⟩;refine zaf fun K h=>?_; go_simp; refine h _ ?_; clear h K;refine zar 14 rfl (by kernel_rfl) (by kernel_rfl) (by kernel_rfl) (fun _ _ _ _ h=>h) rfl HSS.o (fun K hK=>?_); go_simp; refine hK _ ?_; clear hK K;refine zar 15 rfl (by kernel_rfl) (by kernel_rfl) (by kernel_rfl) (fun _ _ _ _ h=>h) rfl HSS.o (fun K hK=>?_); go_simp; refine hK _ ?_; clear hK K;refine zar 16 rfl (by kernel_rfl) (by kernel_rfl) (by kernel_rfl) (fun _ _ _ _ h=>h) rfl HSS.o (fun K hK=>?_); go_simp; refine hK _ ?_; clear hK K;refine zar 17 rfl (by kernel_rfl) (by kernel_rfl) (by kernel_rfl) (fun _ _ _ _ h=>h) rfl HSS.o (fun K hK=>?_); go_simp; refine hK _ ?_; clear hK K;refine zdQ 18 (by kernel_rfl) (zcV rfl rfl 55 zC (by kernel_rfl) (fun b3 wa MA=>⟨?_,?_⟩))
   ·exact ⟨MA.o.old zab.o,MA.o.old zad.o,(HRG.o.ext MA.o.ext).o⟩
   have za7:Hid (b0 < b3):=by unfold Hid; have q:=(zlt zab); have q2:=MA.o.at_; omega
   have zaY:Hid (b1 < b3):=by unfold Hid; have q:=(zlt zad); have q2:=MA.o.at_; omega
   have HB3:Hid (w3_.heap.size<=b3):=by unfold Hid; have q:=HLEK.o; have q2:=MA.o.at_; have q3:=eg.size; omega
   have hw1:∀ k,k < wg.heap.size->(B k∨wd.heap.size<=k)->(B k/\k≠b3):=fun k hk h=>⟨by
    rcases h with h | h
    ·exact h
    ·exact HK.o.2.1 k (by have q:=HLEK.o; have q2:=HSZK.o; omega),by have q2:=MA.o.at_; omega⟩
   have HNC:=zhd ((hcs.widen (B:=(fun k=>B k/\k≠b3)) hw1).ext MA.o.ext);have HNB:=zhd ((hbv.widen (B:=(fun k=>B k/\k≠b3)) hw1).ext MA.o.ext);have HEX:=zhd ((HED.o.trans eg).trans MA.o.ext);replace HRG:=zhd ((HRG.o.widen (B:=(fun k=>B k/\k≠b3)) (fun k hk h=>hw1 k hk (.inl h))).ext MA.o.ext);have zav:=zhd MA.o.block;clear hcs hbv hw1 HSS;replace zab:=zhd (MA.o.old zab.o);replace zad:=zhd (MA.o.old zad.o);have HSS:Hid (wa.heap[b0]?=some (.cells #[.slice ca sc.length cc,.slice ua su.length uc,.slice aa sa.length ac,.slice pa sp.length pc,I gen,.slice xa bl.length xc,.bool busy,I nc,I nt,I nk,I na,I no,I nn,.slice la pl.length lc,I se,I sn,.bool up,I pause,I falls,.slice (some ⟨kb,ko,none⟩) cls.length kc] 44 (0,0))/\wa.heap[b1]?=some (.cells #[I 1,I j] 49 (0,0))/\wa.rangeAt kb (ko+j * 6) [kcalls,I kat,.bool ksent,I kgen,kbox,kgot]):=⟨zab.o,zad.o,HRG.o.o⟩;refine zaf fun K h=>?_; go_simp; refine h _ ?_; clear h K;refine zbL 19 (by kernel_rfl) rfl rfl 55 (.tmp 6) (.tmp 47) rfl b3 0 rfl [.slice na1 ol.length nc1,I oat,.bool osent,I ogen,.slice na2 xl.length nc2,.slice na3 gl.length nc3] rfl zav.o (Nat.le_of_ble_eq_true rfl) (by kernel_rfl) (zbC rfl) #[.slice na1 ol.length nc1,I oat,.bool osent,I ogen,.slice na2 xl.length nc2,.slice na3 gl.length nc3] ((zcm _ _ _ (Nat.le_of_ble_eq_true rfl)).trans rfl) (fun wz MZ=>⟨?_,?_⟩)
   ·exact ⟨MZ.o.old zab.o (Nat.ne_of_lt za7.o),MZ.o.old zad.o (Nat.ne_of_lt zaY.o),(MZ.o.rd HRG.o (fun h=>h.2 rfl)).o⟩
   clear HSS;have HSS:Hid (wz.heap[b0]?=some (.cells #[.slice ca sc.length cc,.slice ua su.length uc,.slice aa sa.length ac,.slice pa sp.length pc,I gen,.slice xa bl.length xc,.bool busy,I nc,I nt,I nk,I na,I no,I nn,.slice la pl.length lc,I se,I sn,.bool up,I pause,I falls,.slice (some ⟨kb,ko,none⟩) cls.length kc] 44 (0,0))/\wz.heap[b1]?=some (.cells #[I 1,I j] 49 (0,0))/\wz.rangeAt kb (ko+j * 6) [kcalls,I kat,.bool ksent,I kgen,kbox,kgot]):=⟨MZ.o.old zab.o (Nat.ne_of_lt za7.o),MZ.o.old zad.o (Nat.ne_of_lt zaY.o),(MZ.o.rd HRG.o (fun h=>h.2 rfl)).o⟩;refine zaf fun K h=>?_; go_simp; refine h _ ?_; clear h K;refine zaE 20 (by kernel_rfl) rfl rfl _ rfl HSS.o ?_;refine zaf fun K h=>?_; go_simp; refine h _ ?_; clear h K;refine zaE 21 (by kernel_rfl) rfl rfl _ rfl HSS.o ?_;refine zaf fun K h=>?_; go_simp; refine h _ ?_; clear h K;refine wpAnyH_done (by kernel_rfl) ?_ _;clear HSS;go_wp2_with fail
   go_meet
   case rel=>exact ⟨b3,_,rfl,rfl,HB3.o,MZ.o.block,MZ.o.ext HEX.o HB3.o,MZ.o.rd HNC.o (fun h=>h.2 rfl),MZ.o.rd HNB.o (fun h=>h.2 rfl)⟩
  ·refine zcV rfl rfl 55 zC (by kernel_rfl) (fun b3 wa MA=>⟨?_,?_⟩)
   ·exact ⟨MA.o.old zab.o,MA.o.old zad.o,(HRG.o.ext MA.o.ext).o⟩
   have za7:Hid (b0 < b3):=by unfold Hid; have q:=(zlt zab); have q2:=MA.o.at_; omega
   have zaY:Hid (b1 < b3):=by unfold Hid; have q:=(zlt zad); have q2:=MA.o.at_; omega
   have HB3:Hid (w3_.heap.size<=b3):=by unfold Hid; have q:=HLEK.o; have q2:=MA.o.at_; omega
   have hw1:∀ k,k < wd.heap.size->B k->(B k/\k≠b3):=fun k hk h=>⟨h,by have q2:=MA.o.at_; omega⟩;replace HC1:=zhd ((HC1.o.widen (B:=(fun k=>B k/\k≠b3)) hw1).ext MA.o.ext);replace HC2:=zhd ((HC2.o.widen (B:=(fun k=>B k/\k≠b3)) hw1).ext MA.o.ext);replace HC3:=zhd ((HC3.o.widen (B:=(fun k=>B k/\k≠b3)) hw1).ext MA.o.ext);replace HRG:=zhd ((HRG.o.widen (B:=(fun k=>B k/\k≠b3)) hw1).ext MA.o.ext);have zav:=zhd MA.o.block;clear hw1 HSS;replace zab:=zhd (MA.o.old zab.o);replace zad:=zhd (MA.o.old zad.o);have HSS:Hid (wa.heap[b0]?=some (.cells #[.slice ca sc.length cc,.slice ua su.length uc,.slice aa sa.length ac,.slice pa sp.length pc,I gen,.slice xa bl.length xc,.bool busy,I nc,I nt,I nk,I na,I no,I nn,.slice la pl.length lc,I se,I sn,.bool up,I pause,I falls,.slice (some ⟨kb,ko,none⟩) cls.length kc] 44 (0,0))/\wa.heap[b1]?=some (.cells #[I 1,I j] 49 (0,0))/\wa.rangeAt kb (ko+j * 6) [kcalls,I kat,.bool ksent,I kgen,kbox,kgot]):=⟨zab.o,zad.o,HRG.o.o⟩;refine zaf fun K h=>?_; go_simp; refine h _ ?_; clear h K;refine zc5 13 (by kernel_rfl) rfl rfl 34 #[.agg #[kcalls,I kat,.bool ksent,I kgen,kbox,kgot],I j,I gen,.bool up] (by go_simp) ?_;refine (zfk ⟨kl,kat,ksent,kgen,kbl,kgl⟩ kcalls kbox kgot j gen up wa (fun k=>B k/\k≠b3) HC1.o HC2.o HC3.o HCB.o.1 HCB.o.2.1 HCB.o.2.2).to fun r wg eg hr=>?_;rw [HGC.o] at hr;simp only [] at hr;obtain ⟨cs,bv,rfl,hcs,hbv⟩:=zjc hr;obtain ⟨n1,n2,n3,rfl,r1,r2,r3⟩:=zd2 hcs;obtain ⟨na1,nc1,rfl⟩:=zag r1.o;obtain ⟨na2,nc2,rfl⟩:=zag r2.o;obtain ⟨na3,nc3,rfl⟩:=zag r3.o;clear r1 r2 r3 hr
   have hw1:∀ k,k < wg.heap.size->((B k/\k≠b3)∨wa.heap.size<=k)->(B k/\k≠b3):=fun k hk h=>by
    rcases h with h | h
    ·exact h
    ·have q:=HLEK.o;have q2:=HSZK.o;have q3:=MA.o.size;have q4:=MA.o.at_;exact ⟨HK.o.2.1 k (by omega),by omega⟩
   have HNC:=zhd (hcs.widen (B:=(fun k=>B k/\k≠b3)) hw1);have HNB:=zhd (hbv.widen (B:=(fun k=>B k/\k≠b3)) hw1);have HEX:=zhd ((HED.o.trans MA.o.ext).trans eg);clear hcs hbv hw1 HSS;replace HRG:=zhd (HRG.o.ext eg);replace zab:=zhd (zbW zab.o eg);replace zad:=zhd (zbW zad.o eg);refine ⟨_,rfl,⟨zab.o,zad.o,HRG.o.o⟩,?_⟩;have HSS:Hid (wg.heap[b0]?=some (.cells #[.slice ca sc.length cc,.slice ua su.length uc,.slice aa sa.length ac,.slice pa sp.length pc,I gen,.slice xa bl.length xc,.bool busy,I nc,I nt,I nk,I na,I no,I nn,.slice la pl.length lc,I se,I sn,.bool up,I pause,I falls,.slice (some ⟨kb,ko,none⟩) cls.length kc] 44 (0,0))/\wg.heap[b1]?=some (.cells #[I 1,I j] 49 (0,0))/\wg.rangeAt kb (ko+j * 6) [kcalls,I kat,.bool ksent,I kgen,kbox,kgot]):=⟨zab.o,zad.o,HRG.o.o⟩;refine zaf fun K h=>?_; go_simp; refine h _ ?_; clear h K;refine zar 14 rfl (by kernel_rfl) (by kernel_rfl) (by kernel_rfl) (fun _ _ _ _ h=>h) rfl HSS.o (fun K hK=>?_); go_simp; refine hK _ ?_; clear hK K;refine zar 15 rfl (by kernel_rfl) (by kernel_rfl) (by kernel_rfl) (fun _ _ _ _ h=>h) rfl HSS.o (fun K hK=>?_); go_simp; refine hK _ ?_; clear hK K;refine zar 16 rfl (by kernel_rfl) (by kernel_rfl) (by kernel_rfl) (fun _ _ _ _ h=>h) rfl HSS.o (fun K hK=>?_); go_simp; refine hK _ ?_; clear hK K;refine zar 17 rfl (by kernel_rfl) (by kernel_rfl) (by kernel_rfl) (fun _ _ _ _ h=>h) rfl HSS.o (fun K hK=>?_); go_simp; refine hK _ ?_; clear hK K;replace zav:=zhd (zbW zav.o eg);refine zbL 19 (by kernel_rfl) rfl rfl 55 (.tmp 6) (.tmp 47) rfl b3 0 rfl [.slice na1 ol.length nc1,I oat,.bool osent,I ogen,.slice na2 xl.length nc2,.slice na3 gl.length nc3] rfl zav.o (Nat.le_of_ble_eq_true rfl) (by kernel_rfl) (zbC rfl) #[.slice na1 ol.length nc1,I oat,.bool osent,I ogen,.slice na2 xl.length nc2,.slice na3 gl.length nc3] ((zcm _ _ _ (Nat.le_of_ble_eq_true rfl)).trans rfl) (fun wz MZ=>⟨?_,?_⟩)
   ·exact ⟨MZ.o.old zab.o (Nat.ne_of_lt za7.o),MZ.o.old zad.o (Nat.ne_of_lt zaY.o),(MZ.o.rd HRG.o (fun h=>h.2 rfl)).o⟩
   clear HSS;have HSS:Hid (wz.heap[b0]?=some (.cells #[.slice ca sc.length cc,.slice ua su.length uc,.slice aa sa.length ac,.slice pa sp.length pc,I gen,.slice xa bl.length xc,.bool busy,I nc,I nt,I nk,I na,I no,I nn,.slice la pl.length lc,I se,I sn,.bool up,I pause,I falls,.slice (some ⟨kb,ko,none⟩) cls.length kc] 44 (0,0))/\wz.heap[b1]?=some (.cells #[I 1,I j] 49 (0,0))/\wz.rangeAt kb (ko+j * 6) [kcalls,I kat,.bool ksent,I kgen,kbox,kgot]):=⟨MZ.o.old zab.o (Nat.ne_of_lt za7.o),MZ.o.old zad.o (Nat.ne_of_lt zaY.o),(MZ.o.rd HRG.o (fun h=>h.2 rfl)).o⟩;refine zaf fun K h=>?_; go_simp; refine h _ ?_; clear h K;refine zaE 20 (by kernel_rfl) rfl rfl _ rfl HSS.o ?_;refine zaf fun K h=>?_; go_simp; refine h _ ?_; clear h K;refine zaE 21 (by kernel_rfl) rfl rfl _ rfl HSS.o ?_;refine zaf fun K h=>?_; go_simp; refine h _ ?_; clear h K;refine wpAnyH_done (by kernel_rfl) ?_ _;clear HSS;go_wp2_with fail
   go_meet
   case rel=>exact ⟨b3,_,rfl,rfl,HB3.o,MZ.o.block,MZ.o.ext HEX.o HB3.o,MZ.o.rd HNC.o (fun h=>h.2 rfl),MZ.o.rd HNB.o (fun h=>h.2 rfl)⟩
 case rest =>
  rename World=>wc;obtain ⟨b3,cs,rfl,rfl,hb3,hblk,hex,hcn,hby⟩:=hcut;obtain ⟨n1,n2,n3,rfl,r1,r2,r3⟩:=zd2 hcn;obtain ⟨na1,nc1,rfl⟩:=zag r1.o;obtain ⟨na2,nc2,rfl⟩:=zag r2.o;obtain ⟨na3,nc3,rfl⟩:=zag r3.o;obtain ⟨ya,yc,rfl⟩:=zao hby.o;clear hcn;obtain ⟨B1,HB1⟩:=zEx B b3;have hnar:∀ k,k < w3_.heap.size->B k->B1 k:=fun k hk h=>(HB1.o k).2 ⟨h,by have q2:=hb3; omega⟩;replace zaF:Hid (¬ B1 b0):=fun h=>zaF.o ((HB1.o _).1 h).1;replace zat:Hid (¬ B1 b1):=fun h=>zat.o ((HB1.o _).1 h).1;replace zaO:Hid (¬ B1 b2):=fun h=>zaO.o ((HB1.o _).1 h).1;have zgp:=zIn HB1;replace H:=zhd (H.o.widen (B:=B1) hnar);clear hnar;have za7:Hid (b0 < b3):=by unfold Hid; have q:=(zlt zab); omega
  have zav:=zhd hblk;have N1:=zhd (r1.widen (B:=B1) (fun k _ h=>(HB1.o k).2 h));have N2:=zhd (r2.widen (B:=B1) (fun k _ h=>(HB1.o k).2 h));have N3:=zhd (r3.widen (B:=B1) (fun k _ h=>(HB1.o k).2 h));have NB:=zhd (hby.widen (B:=B1) (fun k _ h=>(HB1.o k).2 h));replace zab:=zbx zab hex;replace zad:=zbx zad hex;replace zak:=zbx zak hex;replace H:=zhd (H.o.ext hex);replace EW:=zhd (EW.o.trans hex);clear r1 r2 r3 hby hblk hex hb3 HC1 HC2 HC3 HRG;by_cases he:CE=0
  case neg =>
   have hb:(CE != 0)=true:=by simpa using he
   obtain ⟨rfl,rfl⟩:=Prod.mk.inj (HRES.o.1 he);clear he HRES;go_wp2_with (with_reducible refine zT ?_)
   refine zah rfl 44 (.tmp 2) rfl b0 rfl zab zaS zaG (fun v52 H_v52=>?_);go_wp2_with (with_reducible refine zT ?_)
   refine zac rfl 44 (.tmp 4) (.tmp 52) rfl b2 rfl _ (zcv H_v52) zak rfl zaG rfl (fun w24_ M24=>?_);replace zak:=zwb M24;go_wp2
   have z0:=zaq (P:=Tryz.prog) 44 zak.o zaS (by kernel_rfl);refine bodyPost_ret (by simp [results,Tryz.results20,asAddr,z0]; rfl) rfl ?_;replace H:=zHw M24 H zaO;replace EW:=zwe M24 EW zbp;exact ⟨_,rfl,EW.o,Rd.widen (A:=B1) (zbT (RdM.mc (m:=⟨⟨sc,su,sa,sp⟩,⟨gen,bl,busy,⟨nc,nt,⟨nk,na,no,nn⟩⟩,pl,⟨se,sn⟩⟩,up,pause,falls,cls⟩) H.o)) (fun k _ h=>HK.o.2.2.2 k (zgp.o k h))⟩
  subst he;by_cases hcb:CB=[]
  case pos =>
   subst hcb;obtain ⟨hMX,rfl⟩:=Prod.mk.inj (HRES.o.2.1 (by trivial) (by trivial));have HMX:=zhd hMX;clear hMX HRES;go_wp2_with (with_reducible refine zT ?_)
   refine zah rfl 44 (.tmp 2) rfl b0 rfl zab zaS zaG (fun v70 H_v70=>?_);have k1:=zaa (i:=1) zad.o rfl;go_wp2_with (with_reducible refine zT ?_)
   clear k1;refine zah rfl 55 (.tmp 6) rfl b3 rfl zav zbN zbI (fun v73 H_v73=>?_);go_wp2_with fail
   rw [show _=Value.agg #[.slice ca sc.length cc,.slice ua su.length uc,.slice aa sa.length ac,.slice pa sp.length pc,I gen,.slice xa bl.length xc,.bool busy,I nc,I nt,I nk,I na,I no,I nn,.slice la pl.length lc,I se,I sn,.bool up,I pause,I falls,.slice (some ⟨kb,ko,none⟩) cls.length kc] from H_v70.o,show _=Value.agg #[.slice na1 ol.length nc1,I oat,.bool osent,I ogen,.slice na2 xl.length nc2,.slice na3 gl.length nc3] from H_v73.o];have hkk:=zfv ⟨⟨sc,su,sa,sp⟩,⟨gen,bl,busy,⟨nc,nt,⟨nk,na,no,nn⟩⟩,pl,⟨se,sn⟩⟩,up,pause,falls,cls⟩ _ _ _ _ _ _ _ j ol oat osent ogen xl gl _ _ _ wc B1 ⟨H.o.cells,H.o.undo,H.o.answers,H.o.past,H.o.box,H.o.plan,H.o.clients⟩ N1.o N2.o N3.o HQ.o.1 HQ.o.2.1;simp only [] at hkk;rw [HMX.o] at hkk;refine hkk.to fun r wq eq hr=>?_;clear hkk;obtain ⟨cs2,rfl,hcs2⟩:=zbS hr;obtain ⟨c2,u2,a2,p2,box2,plan2,cl2,rfl,hm⟩:=zbX hcs2;obtain ⟨ca',cc',ua',uc',aa',ac',pa',pc',xa',xc',la',lc',ka',kc',rfl,rfl,rfl,rfl,rfl,rfl,rfl⟩:=hm.slices;have hsz:w.heap.size+3<=wc.heap.size:=by have q:=(zlt zak); have q2:=zcd.o; omega
   have hz3:b3 < wc.heap.size:=(zlt zav)
   have HM:=zhd (hm.widen (B:=B1) (fun k _ h=>by
    rcases h with h | h
    ·exact h
    ·exact (HB1.o k).2 ⟨HK.o.2.1 k (by omega),by omega⟩))
   clear hr hcs2 hm hsz;go_wp2_with (with_reducible refine zT ?_)
   replace zak:=zbx zak eq;refine zac rfl 44 (.tmp 4) (.tmp 74) rfl b2 rfl [.slice ca' (RX).store.cells.length cc',.slice ua' (RX).store.undo.length uc',.slice aa' (RX).store.answers.length ac',.slice pa' (RX).store.past.length pc',I (RX).server.gen,.slice xa' (RX).server.box.length xc',.bool (RX).server.busy,I (RX).server.now.client,I (RX).server.now.token,I (RX).server.now.call.kind,I (RX).server.now.call.name,I (RX).server.now.call.other,I (RX).server.now.call.n,.slice la' (RX).server.plan.length lc',I (RX).server.says.err,I (RX).server.says.n,.bool (RX).up,I (RX).pause,I (RX).falls,.slice ka' (RX).clients.length kc'] (rfl) zak rfl zaG rfl (fun w24_ M24=>?_);replace zak:=zwb M24;go_wp2
   have z0:=zaq (P:=Tryz.prog) 44 zak.o zaS (by kernel_rfl);refine bodyPost_ret (by simp [results,Tryz.results20,asAddr,z0]; rfl) rfl ?_;replace EW:=zwe M24 (zhd (EW.o.trans eq)) zbp;replace HM:=zHw M24 HM zaO;exact ⟨_,rfl,EW.o,Rd.widen (A:=B1) (zbT (RdM.mc (m:=RX) HM.o)) (fun k _ h=>HK.o.2.2.2 k (zgp.o k h))⟩
  have hlen:(0:Int) < (CB.length:Int):=by
   cases CB with
   | nil=>exact absurd rfl hcb
   | cons b l=>simp only [List.length_cons]; omega
  go_wp2_with (with_reducible refine zT ?_)
  refine zcp rfl 41 (.tmp 58) rfl b0 4 rfl zab [I gen,.slice xa bl.length xc,.bool busy,I nc,I nt,I nk,I na,I no,I nn,.slice la pl.length lc,I se,I sn] rfl zcr zdg (fun v59 H_v59=>?_);go_wp2_with fail
  rw [show _=Value.agg #[I gen,.slice xa bl.length xc,.bool busy,I nc,I nt,I nk,I na,I no,I nn,.slice la pl.length lc,I se,I sn] from H_v59.o];have hkk:=zhr gen bl busy nc nt nk na no nn pl se sn _ _ _ CB wc B1 H.o.box H.o.plan NB.o HQ.o.2.2;rw [HVX.o] at hkk;simp only [] at hkk;refine hkk.to fun r wv ev hr=>?_;clear hkk;obtain ⟨vs2,rfl,hvs⟩:=zdC hr;obtain ⟨vbox,vplan,rfl,v5,v6⟩:=znn hvs;obtain ⟨va5,vc5,rfl⟩:=zag v5.o;obtain ⟨va6,vc6,rfl⟩:=zao v6.o;have hsz:w.heap.size+3<=wc.heap.size:=by have q:=(zlt zak); have q2:=zcd.o; omega
  have hz3:b3 < wc.heap.size:=(zlt zav)
  have hin:∀ k,k < wv.heap.size->(B1 k∨wc.heap.size<=k)->B1 k:=fun k _ h=>by
   rcases h with h | h
   ·exact h
   ·exact (HB1.o k).2 ⟨HK.o.2.1 k (by omega),by omega⟩
  have V5:=zhd (v5.widen hin);have V6:=zhd (v6.widen hin);clear hr hvs v5 v6 hin hsz hz3;go_wp2_with (with_reducible refine zT ?_)
  refine zae rfl 41 zS (by kernel_rfl) (fun b4 w24_ M24=>?_);replace zab:=zbx zab ev;have zco:=zld zab M24;replace zad:=zbx zad ev;have zbr:=zld zad M24;replace zak:=zbx zak ev;have zcR:=zld zak M24;replace zav:=zbx zav ev;have zg5:=zld zav M24;obtain ⟨B11,HB11⟩:=zEx B1 b4;have zc6:=zNn HB11;have zjz:=zIn HB11;replace EW:=zhd (EW.o.trans ev);have zee:=zOn M24 EW;have zaJ:=zmb M24;go_wp2_with (with_reducible refine zT ?_)
  refine zac rfl 41 (.tmp 9) (.tmp 62) rfl b4 rfl [I VX.gen,.slice va5 VX.box.length vc5,.bool VX.busy,I VX.now.client,I VX.now.token,I VX.now.call.kind,I VX.now.call.name,I VX.now.call.other,I VX.now.call.n,.slice va6 VX.plan.length vc6,I VX.says.err,I VX.says.n] (rfl) zaJ rfl zdg rfl (fun w25_ M25=>?_);replace zaJ:=zwb M25;replace H:=zHw M25 (zhd ((zMD HB11 M24 (zhd (H.o.ext ev))).o.ext M24.o.ext)) zc6;replace N1:=zwr M25 (zme M24 (zmd HB11 M24 (zrx N1 ev))) zc6;replace N2:=zwr M25 (zme M24 (zmd HB11 M24 (zrx N2 ev))) zc6;replace N3:=zwr M25 (zme M24 (zmd HB11 M24 (zrx N3 ev))) zc6;replace NB:=zwr M25 (zme M24 (zmd HB11 M24 (zrx NB ev))) zc6;replace V5:=zwr M25 (zme M24 (zmd HB11 M24 V5)) zc6;replace V6:=zwr M25 (zme M24 (zmd HB11 M24 V6)) zc6;replace zaF:=znw HB11 zaF;replace zaO:=znw HB11 zaO;replace zab:=zwl M25 (zmo M24 zab) zco;replace zad:=zwl M25 (zmo M24 zad) zbr;replace zak:=zwl M25 (zmo M24 zak) zcR;replace zav:=zwl M25 (zmo M24 zav) zg5;replace EW:=zwe M25 (zet EW M24) zee;by_cases hve:VE=0
  case neg =>
   have hbv:(VE != 0)=true:=by simpa using hve
   obtain ⟨rfl,rfl⟩:=Prod.mk.inj (HRES.o.2.2.1 (by trivial) hcb hve);clear hve HRES hcb;go_wp2_with (with_reducible refine zT ?_)
   refine zah rfl 44 (.tmp 2) rfl b0 rfl zab zaS zaG (fun v66 H_v66=>?_);go_wp2_with (with_reducible refine zT ?_)
   refine zac rfl 44 (.tmp 4) (.tmp 66) rfl b2 rfl _ (zcv H_v66) zak rfl zaG rfl (fun w26_ M26=>?_);replace zak:=zwb M26;go_wp2
   have z0:=zaq (P:=Tryz.prog) 44 zak.o zaS (by kernel_rfl);refine bodyPost_ret (by simp [results,Tryz.results20,asAddr,z0]; rfl) rfl ?_;replace H:=zHw M26 H zaO;replace EW:=zwe M26 EW zbp;exact ⟨_,rfl,EW.o,Rd.widen (A:=B11) (zbT (RdM.mc (m:=⟨⟨sc,su,sa,sp⟩,⟨gen,bl,busy,⟨nc,nt,⟨nk,na,no,nn⟩⟩,pl,⟨se,sn⟩⟩,up,pause,falls,cls⟩) H.o)) (fun k _ h=>HK.o.2.2.2 k (zgp.o k (zjz.o k h)))⟩
  subst hve;obtain ⟨hMX,rfl⟩:=Prod.mk.inj (HRES.o.2.2.2 (by trivial) hcb (by trivial));have HMX:=zhd hMX;clear hMX HRES hcb;go_wp2_with (with_reducible refine zT ?_)
  refine zah rfl 41 (.tmp 9) rfl b4 rfl zaJ zcr zdg (fun v68 H_v68=>?_);go_wp2_with (with_reducible refine zT ?_)
  refine zal rfl 41 (.tmp 69) (.tmp 68) rfl b0 4 rfl _ (zcv H_v68) zab rfl zdg rfl [.slice ca sc.length cc,.slice ua su.length uc,.slice aa sa.length ac,.slice pa sp.length pc,I VX.gen,.slice va5 VX.box.length vc5,.bool VX.busy,I VX.now.client,I VX.now.token,I VX.now.call.kind,I VX.now.call.name,I VX.now.call.other,I VX.now.call.n,.slice va6 VX.plan.length vc6,I VX.says.err,I VX.says.n,.bool up,I pause,I falls,.slice (some ⟨kb,ko,none⟩) cls.length kc] rfl (fun w26_ M26=>?_);replace zab:=zwb M26;go_wp2_with (with_reducible refine zT ?_)
  refine zah rfl 44 (.tmp 2) rfl b0 rfl zab zaS zaG (fun v70 H_v70=>?_);replace zad:=zwg M26 zad zaw;have k1:=zaa (i:=1) zad.o rfl;go_wp2_with (with_reducible refine zT ?_)
  clear k1;replace zav:=zwg M26 zav za7;refine zah rfl 55 (.tmp 6) rfl b3 rfl zav zbN zbI (fun v73 H_v73=>?_);go_wp2_with fail
  rw [show _=Value.agg #[.slice ca sc.length cc,.slice ua su.length uc,.slice aa sa.length ac,.slice pa sp.length pc,I VX.gen,.slice va5 VX.box.length vc5,.bool VX.busy,I VX.now.client,I VX.now.token,I VX.now.call.kind,I VX.now.call.name,I VX.now.call.other,I VX.now.call.n,.slice va6 VX.plan.length vc6,I VX.says.err,I VX.says.n,.bool up,I pause,I falls,.slice (some ⟨kb,ko,none⟩) cls.length kc] from H_v70.o,show _=Value.agg #[.slice na1 ol.length nc1,I oat,.bool osent,I ogen,.slice na2 xl.length nc2,.slice na3 gl.length nc3] from H_v73.o];replace H:=zHw M26 H zaF;replace N1:=zwr M26 N1 zaF;replace N2:=zwr M26 N2 zaF;replace N3:=zwr M26 N3 zaF;replace V5:=zwr M26 V5 zaF;replace V6:=zwr M26 V6 zaF;have hkk:=zfv ⟨⟨sc,su,sa,sp⟩,VX,up,pause,falls,cls⟩ _ _ _ _ _ _ _ j ol oat osent ogen xl gl _ _ _ w26_ B11 ⟨H.o.cells,H.o.undo,H.o.answers,H.o.past,V5.o,V6.o,H.o.clients⟩ N1.o N2.o N3.o HQ.o.1 HQ.o.2.1;simp only [] at hkk;rw [HMX.o] at hkk;refine hkk.to fun r wq eq hr=>?_;clear hkk;obtain ⟨cs2,rfl,hcs2⟩:=zbS hr;obtain ⟨c2,u2,a2,p2,box2,plan2,cl2,rfl,hm⟩:=zbX hcs2;obtain ⟨ca',cc',ua',uc',aa',ac',pa',pc',xa',xc',la',lc',ka',kc',rfl,rfl,rfl,rfl,rfl,rfl,rfl⟩:=hm.slices;replace zak:=zwg M26 zak zaU;have hsz:w.heap.size+3<=w26_.heap.size:=by have q:=(zlt zak); have q2:=zcd.o; omega
  have hz3:b3 < w26_.heap.size:=(zlt zav);replace zaJ:=zwg M26 zaJ zco;have hz4:b4 < w26_.heap.size:=(zlt zaJ)
  have HM:=zhd (hm.widen (B:=B11) (fun k _ h=>by
   rcases h with h | h
   ·exact h
   ·exact (HB11.o k).2 ⟨(HB1.o k).2 ⟨HK.o.2.1 k (by omega),by omega⟩,by omega⟩))
  clear hr hcs2 hm hsz;go_wp2_with (with_reducible refine zT ?_)
  replace zak:=zbx zak eq;refine zac rfl 44 (.tmp 4) (.tmp 74) rfl b2 rfl [.slice ca' (RX).store.cells.length cc',.slice ua' (RX).store.undo.length uc',.slice aa' (RX).store.answers.length ac',.slice pa' (RX).store.past.length pc',I (RX).server.gen,.slice xa' (RX).server.box.length xc',.bool (RX).server.busy,I (RX).server.now.client,I (RX).server.now.token,I (RX).server.now.call.kind,I (RX).server.now.call.name,I (RX).server.now.call.other,I (RX).server.now.call.n,.slice la' (RX).server.plan.length lc',I (RX).server.says.err,I (RX).server.says.n,.bool (RX).up,I (RX).pause,I (RX).falls,.slice ka' (RX).clients.length kc'] (rfl) zak rfl zaG rfl (fun w27_ M27=>?_);replace zak:=zwb M27;go_wp2
  have z0:=zaq (P:=Tryz.prog) 44 zak.o zaS (by kernel_rfl);refine bodyPost_ret (by simp [results,Tryz.results20,asAddr,z0]; rfl) rfl ?_;replace EW:=zwe M27 (zhd ((zwe M26 EW zbm).o.trans eq)) zbp;replace HM:=zHw M27 HM zaO;exact ⟨_,rfl,EW.o,Rd.widen (A:=B11) (zbT (RdM.mc (m:=RX) HM.o)) (fun k _ h=>HK.o.2.2.2 k (zgp.o k (zjz.o k h)))⟩

open Go.RowKit Go.Mk

structure Fit (m:Mc):Prop where
 cells:m.store.cells.length=11
 undo:m.store.undo.length<=1000
 answers:m.store.answers.length<=1000
 past:m.store.past.length<=1000
 right:m.up=true->m.server.busy=false->zfx m.store.cells
 clients:m.clients.length<=1000
 each:∀ c ∈ m.clients,0<=c.at_/\c.at_<=1000000/\c.got.length<=1000/\c.box.length<=1000
 box:m.server.box.length<=1000
 falls:0<=m.falls
 gen:0<=m.server.gen/\m.server.gen<=1000000
 pause:0<=m.pause/\m.pause<=1000000

theorem zgA (m:Mc) (c u a p box plan cl:Value) (kind n:Int) (w:World) (A:Nat->Prop) (h:RdM A w m c u a p box plan cl) (hf:Fit m) :
  zaK Tryz.prog 20 #[.agg (zaH m c u a p box plan cl).toArray,.agg #[I kind,I n]] w A (fun r w'=>zgz zc1 (doM m kind n).1 (doM m kind n).2 r w'):=by
 have hc:=hf.cells
 by_cases h1:kind=1
 ·subst h1
  by_cases hn:n < 0∨(m.clients.length:Int)<=n
  ·exact zj4 m c u a p box plan cl n w A h hn
  ·exact zlw m c u a p box plan cl n w A h (by omega) hf.clients (fun c hc=>⟨(hf.each c hc).1,(hf.each c hc).2.1,(hf.each c hc).2.2.1⟩) hf.box
 by_cases h2:kind=2
 ·subst h2
  exact zmq m c u a p box plan cl n w A h (by omega) (by have:=hf.undo; omega) hf.answers (by have:=hf.past; omega) hf.right hf.clients (fun c hc=>(hf.each c hc).2.2.2)
 by_cases h3:kind=3
 ·subst h3
  exact zoe m c u a p box plan cl n w A h hf.falls
 by_cases h4:kind=4
 ·subst h4
  exact zog m c u a p box plan cl n w A h (by omega) hf.gen hf.pause
 exact znH m c u a p box plan cl kind n w A h h1 h2 h3 h4

open Go.RowKit Go.Mk

theorem zlA {l:List (List Cl)} (hl:za8 l) {m:Mc} {ks:List Nat} {bz:Option Nat} (h:MInv l m ks bz) {k:Nat} (hs:SizeM m k) (hk:k<=1000):Fit m where
 cells:=h.cells
 undo:=Nat.le_trans hs.undo hk
 answers:=Nat.le_trans hs.answers hk
 past:=Nat.le_trans hs.past hk
 right:=fun hu hb=>by
  have h1:bz=none:=by
   have:=h.busy
   rw [hb] at this
   cases bz with
   | none=>rfl
   | some i=>cases this
  have h2:=h.right
  rw [h.clean hu h1] at h2
  exact zoP h2
 clients:=by rw [h.nc]; have:=hl.1; omega
 each:=fun c hc=>by
  obtain ⟨i,hi⟩:=List.mem_iff_getElem?.1 hc
  have h1:=(h.clients i c hi).at_
  have h2:=hs.each c hc
  rw [h1]
  omega
 box:=Nat.le_trans hs.box hk
 falls:=h.falls.1
 gen:=by
  obtain ⟨g1,g2,g3⟩:=h.gens
  have hf:=h.falls
  cases hu:m.up with
  | true=>have:=g2 hu; omega
  | false=>have:=g3 hu; omega
 pause:=by
  cases hu:m.up with
  | true=>have:=h.upp hu; omega
  | false=>have:=h.down hu; omega

end Go.Proofs.YtdmipnnfoolelafGreat

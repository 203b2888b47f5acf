/- Texts of the proof, merged: N12 N13 N14. -/
import Derived.Test.YtdmipnnfoolelagGreatKTA
import Derived.Test.YtdmipnnfoolelagGreatKTX
import Derived.Deep.DeepCutAuto
import Derived.Test.YtdmipnnfoolelagGreatKTF
set_option maxHeartbeats 2000000
set_option maxRecDepth 100000

namespace Go.Proofs.YtdmipnnfoolelagGreat
open Go.RowKit Go.Mk

theorem zjJ (m:Mc) (c u a p box plan cl:Value) (n:Int) (w:World) (A:Nat->Prop) (h:RdM A w m c u a p box plan cl) (hn:n < 0∨(m.clients.length:Int)<=n) :
  zaJ Tryz.prog 16 #[.agg (zaL m c u a p box plan cl).toArray,.agg #[I 1,I n]] w A (fun r w'=>zge zdc (doM m 1 n).1 (doM m 1 n).2 r w'):=by
 unfold zaJ;obtain ⟨ca,cc,ua,uc,aa,ac,pa,pc,xa,xc,la,lc,ka,kc,rfl,rfl,rfl,rfl,rfl,rfl,rfl⟩:=h.slices;obtain ⟨⟨sc,su,sa,sp⟩,⟨gen,bl,busy,⟨nc,nt,⟨nk,na,no,nn⟩⟩,pl,⟨se,sn⟩⟩,up,pause,falls,cls⟩:=m;simp only [zaL] at *;have EW:=zhd (Ext.refl w);obtain ⟨B,hB⟩:=zds A w.heap.size 3;have HK:=zhd hB;clear hB;have H:=zhd (h.widen HK.o.1);clear h
 have hX:doM ⟨⟨sc,su,sa,sp⟩,⟨gen,bl,busy,⟨nc,nt,⟨nk,na,no,nn⟩⟩,pl,⟨se,sn⟩⟩,up,pause,falls,cls⟩ 1 n=(⟨⟨sc,su,sa,sp⟩,⟨gen,bl,busy,⟨nc,nt,⟨nk,na,no,nn⟩⟩,pl,⟨se,sn⟩⟩,up,pause,falls,cls⟩,6):=by
  unfold doM;rw [if_pos rfl,if_pos hn]
 rw [hX];clear hX;by_cases h0:n < 0
 case pos =>
  clear hn;go_enter Tryz.func16,Tryz.ntmps16
  go_wp2_with (with_reducible refine zT ?_)
  refine zaj rfl 45 (.tmp 0) rfl #[.slice ca sc.length cc,.slice ua su.length uc,.slice aa sa.length ac,.slice pa sp.length pc,I gen,.slice xa bl.length xc,.bool busy,I nc,I nt,I nk,I na,I no,I nn,.slice la pl.length lc,I se,I sn,.bool up,I pause,I falls,.slice ka cls.length kc] rfl (fun b0 w1_ M1=>?_);have zaa:=zmb M1;go_wp2_with (with_reducible refine zT ?_)
  refine zaj rfl 64 (.tmp 1) rfl #[I 1,I n] rfl (fun b1 w2_ M2=>?_);have zac:=zmb M2;go_wp2_with (with_reducible refine zT ?_)
  refine zaf rfl 45 zM (by kernel_rfl) (fun b2 w3_ M3=>?_);replace zaa:=zmo M2 zaa;have zai:=zmb M3;have zaW:=zA0 M1;have za1:=zA1 zaW M1 M2;have zb5:=zA1 za1 M2 M3;have zaN:=znb HK zb5 (by decide);have zbm:=zob zb5;replace zac:=zmo M3 zac;have k0:=zad (i:=0) zac.o rfl;have k1:=zad (i:=1) zac.o rfl;go_wp2_with (with_reducible refine zT ?_)
  clear k0 k1;replace zaa:=zmo M3 zaa;refine zah rfl 45 (.tmp 2) rfl b0 rfl zaa zaY zaP (fun v31 H_v31=>?_);go_wp2_with (with_reducible refine zT ?_)
  refine zab rfl 45 (.tmp 4) (.tmp 31) rfl b2 rfl _ (zcv H_v31) zai rfl zaP rfl (fun w4_ M4=>?_);replace zai:=zwb M4;go_wp2
  have z0:=zap (P:=Tryz.prog) 45 zai.o zaY (by kernel_rfl);refine bodyPost_ret (by simp [results,Tryz.results16,asAddr,z0]; rfl) rfl ?_;replace H:=zHw M4 (zhd ((zhd ((zhd (H.o.ext M1.o.ext)).o.ext M2.o.ext)).o.ext M3.o.ext)) zaN;replace EW:=zwe M4 (zet (zet (zet EW M1) M2) M3) zbm;exact ⟨_,rfl,EW.o,Rd.widen (A:=B) (zbO (RdM.mc (m:=⟨⟨sc,su,sa,sp⟩,⟨gen,bl,busy,⟨nc,nt,⟨nk,na,no,nn⟩⟩,pl,⟨se,sn⟩⟩,up,pause,falls,cls⟩) H.o)) (fun k _ h=>HK.o.2.2.2 k h)⟩
 have hge:(cls.length:Int)<=n:=by
  rcases hn with h | h
  ·exact absurd h h0
  ·exact h
 clear hn;go_enter Tryz.func16,Tryz.ntmps16
 go_wp2_with (with_reducible refine zT ?_)
 refine zaj rfl 45 (.tmp 0) rfl #[.slice ca sc.length cc,.slice ua su.length uc,.slice aa sa.length ac,.slice pa sp.length pc,I gen,.slice xa bl.length xc,.bool busy,I nc,I nt,I nk,I na,I no,I nn,.slice la pl.length lc,I se,I sn,.bool up,I pause,I falls,.slice ka cls.length kc] rfl (fun b0 w1_ M1=>?_);have zaa:=zmb M1;go_wp2_with (with_reducible refine zT ?_)
 refine zaj rfl 64 (.tmp 1) rfl #[I 1,I n] rfl (fun b1 w2_ M2=>?_);have zac:=zmb M2;go_wp2_with (with_reducible refine zT ?_)
 refine zaf rfl 45 zM (by kernel_rfl) (fun b2 w3_ M3=>?_);replace zaa:=zmo M2 zaa;have zai:=zmb M3;have zaW:=zA0 M1;have za1:=zA1 zaW M1 M2;have zb5:=zA1 za1 M2 M3;have zaN:=znb HK zb5 (by decide);have zbm:=zob zb5;replace zac:=zmo M3 zac;have k0:=zad (i:=0) zac.o rfl;have k1:=zad (i:=1) zac.o rfl;replace zaa:=zmo M3 zaa;have c19:=zad (i:=19) zaa.o rfl;go_wp2_with (with_reducible refine zT ?_)
 clear k0 k1 c19;refine zah rfl 45 (.tmp 2) rfl b0 rfl zaa zaY zaP (fun v31 H_v31=>?_);go_wp2_with (with_reducible refine zT ?_)
 refine zab rfl 45 (.tmp 4) (.tmp 31) rfl b2 rfl _ (zcv H_v31) zai rfl zaP rfl (fun w4_ M4=>?_);replace zai:=zwb M4;go_wp2
 have z0:=zap (P:=Tryz.prog) 45 zai.o zaY (by kernel_rfl);refine bodyPost_ret (by simp [results,Tryz.results16,asAddr,z0]; rfl) rfl ?_;replace H:=zHw M4 (zhd ((zhd ((zhd (H.o.ext M1.o.ext)).o.ext M2.o.ext)).o.ext M3.o.ext)) zaN;replace EW:=zwe M4 (zet (zet (zet EW M1) M2) M3) zbm;exact ⟨_,rfl,EW.o,Rd.widen (A:=B) (zbO (RdM.mc (m:=⟨⟨sc,su,sa,sp⟩,⟨gen,bl,busy,⟨nc,nt,⟨nk,na,no,nn⟩⟩,pl,⟨se,sn⟩⟩,up,pause,falls,cls⟩) H.o)) (fun k _ h=>HK.o.2.2.2 k h)⟩

theorem zlh (m:Mc) (c u a p box plan cl:Value) (n:Int) (w:World) (A:Nat->Prop) (h:RdM A w m c u a p box plan cl) (hn:0<=n/\n < (m.clients.length:Int)) (hl:m.clients.length<=1000) (hcs:∀ c ∈ m.clients,0<=c.at_/\c.at_<=1000000/\c.got.length<=1000) (hbx:m.server.box.length<=1000) :
  zaJ Tryz.prog 16 #[.agg (zaL m c u a p box plan cl).toArray,.agg #[I 1,I n]] w A (fun r w'=>zge zdc (doM m 1 n).1 (doM m 1 n).2 r w'):=by
 unfold zaJ;obtain ⟨ca,cc,ua,uc,aa,ac,pa,pc,xa,xc,la,lc,ka,kc,rfl,rfl,rfl,rfl,rfl,rfl,rfl⟩:=h.slices;obtain ⟨⟨sc,su,sa,sp⟩,⟨gen,bl,busy,⟨nc,nt,⟨nk,na,no,nn⟩⟩,pl,⟨se,sn⟩⟩,up,pause,falls,cls⟩:=m;simp only [zaL] at *;have EW:=zhd (Ext.refl w);obtain ⟨B,hB⟩:=zds A w.heap.size 3;have HK:=zhd hB;clear hB;have H:=zhd (h.widen HK.o.1);clear h;obtain ⟨j,rfl⟩:∃ j:Nat,n=(j:Int):=⟨n.toNat,by omega⟩;have hkl:j < cls.length:=by omega
 have hj1:(j:Int) < (cls.length:Int):=by omega
 have hj0:¬ ((j:Int) < 0):=by omega
 have hj2:¬ ((cls.length:Int)<=(j:Int)):=by omega
 have hj3:(0:Int)<=(j:Int):=by omega
 obtain ⟨css,hcs2⟩:=zdu (by decide) H.o.clients;have HCS:=zhd hcs2.left;have HRW:=zhd hcs2.right;clear hcs2;obtain ⟨c6,cx,hc6,hcx,hc6l⟩:=zfJ HCS.o.o hkl;have hgd:cls.getD j (zbS [])=cx:=by simp [hcx]
 have HCX:=zhd (ze5 HCS.o hc6 hcx);have HCB:=zhd (hcs cx (List.mem_of_getElem? hcx));obtain ⟨kcalls,kbox,kgot,hk6,q1,q2,q3⟩:=zdW HCX.o;subst hk6
 obtain ⟨kb,ko,hka⟩:∃ b o,ka=some ⟨b,o,none⟩:=by
  obtain ⟨_,_,e1,_,_,_,hf⟩:=H.o.clients.o.form (by decide);simp only [Value.slice.injEq,true_and] at e1;obtain ⟨rfl,rfl⟩:=e1;obtain ⟨b,o,_,e2,_⟩:=hf _ _ hcx;exact ⟨b,o,e2⟩
 subst hka;have HRG:=zhd (HRW.o.imp fun w hw=>zeh (by decide) hw HCS.o.o.sizes hc6);obtain ⟨kl,kat,ksent,kgen,kbl,kgl⟩:=cx;obtain ⟨⟨ol,oat,osent,ogen,xl,gl⟩,CB,CE,hGC⟩:∃ x y z,zcx ⟨kl,kat,ksent,kgen,kbl,kgl⟩ (j:Int) gen up=(x,y,z):=⟨_,_,_,rfl⟩;obtain ⟨VX,VE,hVX⟩:∃ x y,zbY ⟨gen,bl,busy,⟨nc,nt,⟨nk,na,no,nn⟩⟩,pl,⟨se,sn⟩⟩ CB=(x,y):=⟨_,_,rfl⟩
 have hX:doM ⟨⟨sc,su,sa,sp⟩,⟨gen,bl,busy,⟨nc,nt,⟨nk,na,no,nn⟩⟩,pl,⟨se,sn⟩⟩,up,pause,falls,cls⟩ 1 (j:Int)=if CE≠0 then (⟨⟨sc,su,sa,sp⟩,⟨gen,bl,busy,⟨nc,nt,⟨nk,na,no,nn⟩⟩,pl,⟨se,sn⟩⟩,up,pause,falls,cls⟩,CE) else if CB≠[] then (if VE≠0 then (⟨⟨sc,su,sa,sp⟩,⟨gen,bl,busy,⟨nc,nt,⟨nk,na,no,nn⟩⟩,pl,⟨se,sn⟩⟩,up,pause,falls,cls⟩,VE) else (⟨⟨sc,su,sa,sp⟩,VX,up,pause,falls,(cls.set j ⟨ol,oat,osent,ogen,xl,gl⟩)⟩,0)) else (⟨⟨sc,su,sa,sp⟩,⟨gen,bl,busy,⟨nc,nt,⟨nk,na,no,nn⟩⟩,pl,⟨se,sn⟩⟩,up,pause,falls,(cls.set j ⟨ol,oat,osent,ogen,xl,gl⟩)⟩,0):=by
  unfold doM;rw [if_pos rfl,if_neg (by simp only []; omega)];simp only [Int.toNat_natCast,hgd,hGC,hVX]
 obtain ⟨RX,RE,hRES⟩:∃ x y,doM ⟨⟨sc,su,sa,sp⟩,⟨gen,bl,busy,⟨nc,nt,⟨nk,na,no,nn⟩⟩,pl,⟨se,sn⟩⟩,up,pause,falls,cls⟩ 1 (j:Int)=(x,y):=⟨_,_,rfl⟩;rw [hRES];rw [hX] at hRES
 have HRES:Hid ((CE≠0->(⟨⟨sc,su,sa,sp⟩,⟨gen,bl,busy,⟨nc,nt,⟨nk,na,no,nn⟩⟩,pl,⟨se,sn⟩⟩,up,pause,falls,cls⟩,CE)=(RX,RE))/\(CE=0->CB=[]->(⟨⟨sc,su,sa,sp⟩,⟨gen,bl,busy,⟨nc,nt,⟨nk,na,no,nn⟩⟩,pl,⟨se,sn⟩⟩,up,pause,falls,(cls.set j ⟨ol,oat,osent,ogen,xl,gl⟩)⟩,0)=(RX,RE))/\(CE=0->CB≠[]->VE≠0->(⟨⟨sc,su,sa,sp⟩,⟨gen,bl,busy,⟨nc,nt,⟨nk,na,no,nn⟩⟩,pl,⟨se,sn⟩⟩,up,pause,falls,cls⟩,VE)=(RX,RE))/\(CE=0->CB≠[]->VE=0->(⟨⟨sc,su,sa,sp⟩,VX,up,pause,falls,(cls.set j ⟨ol,oat,osent,ogen,xl,gl⟩)⟩,0)=(RX,RE))):=by
  refine ⟨fun h=>?_,fun h h2=>?_,fun h h2 h3=>?_,fun h h2 h3=>?_⟩
  ·rwa [if_pos h] at hRES
  ·rwa [if_neg (by simpa using h),if_neg (by simpa using h2)] at hRES
  ·rwa [if_neg (by simpa using h),if_pos h2,if_pos h3] at hRES
  ·rwa [if_neg (by simpa using h),if_pos h2,if_neg (by simpa using h3)] at hRES
 clear hRES;have HC1:=zhd q1;have HC2:=zhd q2;have HC3:=zhd q3;have HGC:=zhd hGC;have HVX:=zhd hVX;have HQ:=zhd (And.intro hkl (And.intro hl hbx));clear hgd hc6 hcx hc6l HRW HCS HCX q1 q2 q3 hGC hVX hX hkl hl hbx hcs hn;simp only [] at *;go_enter Tryz.func16,Tryz.ntmps16
 go_wp2_with (with_reducible refine zT ?_)
 refine zaj rfl 45 (.tmp 0) rfl #[.slice ca sc.length cc,.slice ua su.length uc,.slice aa sa.length ac,.slice pa sp.length pc,I gen,.slice xa bl.length xc,.bool busy,I nc,I nt,I nk,I na,I no,I nn,.slice la pl.length lc,I se,I sn,.bool up,I pause,I falls,.slice (some ⟨kb,ko,none⟩) cls.length kc] rfl (fun b0 w1_ M1=>?_);have zaa:=zmb M1;go_wp2_with (with_reducible refine zT ?_)
 refine zaj rfl 64 (.tmp 1) rfl #[I 1,I j] rfl (fun b1 w2_ M2=>?_);have zav:=zld zaa M2;have zac:=zmb M2;go_wp2_with (with_reducible refine zT ?_)
 refine zaf rfl 45 zM (by kernel_rfl) (fun b2 w3_ M3=>?_);replace zaa:=zmo M2 zaa;have zaR:=zld zaa M3;have zai:=zmb M3;have zaW:=zA0 M1;have zaF:=znb HK zaW (by decide);have zbl:=zob zaW;have za1:=zA1 zaW M1 M2;have zas:=znb HK za1 (by decide);have zb5:=zA1 za1 M2 M3;have zaN:=znb HK zb5 (by decide);have zbm:=zob zb5;replace zac:=zmo M3 zac;have k0:=zad (i:=0) zac.o rfl;have k1:=zad (i:=1) zac.o rfl;replace zaa:=zmo M3 zaa;have c19:=zad (i:=19) zaa.o rfl;go_upto_region 5 with fail
 clear k0 k1 c19;have hszk:w.heap.size+3<=w3_.heap.size:=by have q:=(zlt zai); have q2:=zb5.o; omega
 have HSZK:=zhd hszk;clear hszk;replace H:=zhd ((zhd ((zhd (H.o.ext M1.o.ext)).o.ext M2.o.ext)).o.ext M3.o.ext);replace HC1:=zme M3 (zme M2 (zme M1 HC1));replace HC2:=zme M3 (zme M2 (zme M1 HC2));replace HC3:=zme M3 (zme M2 (zme M1 HC3));replace HRG:=zme M3 (zme M2 (zme M1 HRG));replace EW:=zet (zet (zet EW M1) M2) M3;go_cut [6,7,8] (fun p6 b7 e8 wc=>∃ (b3:Nat) (cs:List Value),p6=.pointer (some ⟨b3,0,none⟩)/\e8=I CE/\w3_.heap.size<=b3/\wc.heap[b3]?=some (.cells cs.toArray 56 (0,0))/\Ext w3_ wc/\Rd (fun k=>B k/\k≠b3) (fun w=>zcA w cs ⟨ol,oat,osent,ogen,xl,gl⟩) wc/\Rd (fun k=>B k/\k≠b3) (fun w=>zba w b7 CB) wc)
 case first =>
  go_wp2_with fail
  refine zbh (S:=fun w'=>w'.heap[b0]?=some (.cells #[.slice ca sc.length cc,.slice ua su.length uc,.slice aa sa.length ac,.slice pa sp.length pc,I gen,.slice xa bl.length xc,.bool busy,I nc,I nt,I nk,I na,I no,I nn,.slice la pl.length lc,I se,I sn,.bool up,I pause,I falls,.slice (some ⟨kb,ko,none⟩) cls.length kc] 45 (0,0))/\w'.heap[b1]?=some (.cells #[I 1,I j] 64 (0,0))/\w'.rangeAt kb (ko+j * 6) [kcalls,I kat,.bool ksent,I kgen,kbox,kgot]) (by kernel_rfl) (fun wd ed _=>?_);have hlek:w3_.heap.size<=wd.heap.size:=ed.size;have HED:=zhd ed;have HLEK:=zhd hlek;clear hlek;replace zaa:=zbx zaa ed;replace zac:=zbx zac ed;replace HRG:=zrx HRG ed;have HSS:Hid (wd.heap[b0]?=some (.cells #[.slice ca sc.length cc,.slice ua su.length uc,.slice aa sa.length ac,.slice pa sp.length pc,I gen,.slice xa bl.length xc,.bool busy,I nc,I nt,I nk,I na,I no,I nn,.slice la pl.length lc,I se,I sn,.bool up,I pause,I falls,.slice (some ⟨kb,ko,none⟩) cls.length kc] 45 (0,0))/\wd.heap[b1]?=some (.cells #[I 1,I j] 64 (0,0))/\wd.rangeAt kb (ko+j * 6) [kcalls,I kat,.bool ksent,I kgen,kbox,kgot]):=⟨zaa.o,zac.o,HRG.o.o⟩;refine zaq 0 rfl (by kernel_rfl) (by kernel_rfl) (by kernel_rfl) (fun _ _ _ _ h=>h) rfl HSS.o (fun K hK=>?_); go_simp; refine hK _ ?_; clear hK K;refine zbu 1 rfl (by kernel_rfl) (by kernel_rfl) (by kernel_rfl) (fun _ _ _ _ h=>h) (.slice (some ⟨kb,ko,none⟩) cls.length kc) rfl (fun w' hS=>by have q0:=zad (i:=19) hS.1 rfl; go_simp) HSS.o ?_;refine zae fun K h=>?_; go_simp; refine h _ ?_; clear h K;refine zaq 2 rfl (by kernel_rfl) (by kernel_rfl) (by kernel_rfl) (fun _ _ _ _ h=>h) rfl HSS.o (fun K hK=>?_); go_simp; refine hK _ ?_; clear hK K;refine zbu 3 rfl (by kernel_rfl) (by kernel_rfl) (by kernel_rfl) (fun _ _ _ _ h=>h) (I j) rfl (fun w' hS=>by have q0:=zad (i:=1) hS.2.1 rfl; go_simp) HSS.o ?_;refine zae fun K h=>?_; go_simp; refine h _ ?_; clear h K;refine zaq 4 rfl (by kernel_rfl) (by kernel_rfl) (by kernel_rfl) (fun _ _ _ _ h=>h) rfl HSS.o (fun K hK=>?_); go_simp; refine hK _ ?_; clear hK K;refine zbu 5 rfl (by kernel_rfl) (by kernel_rfl) (by kernel_rfl) (fun _ _ _ _ h=>h) (.agg #[kcalls,I kat,.bool ksent,I kgen,kbox,kgot]) rfl (fun w' hS=>zfs 56 (.tmp 37) rfl kb (ko+j * 6) rfl [kcalls,I kat,.bool ksent,I kgen,kbox,kgot] hS.2.2 zbM (by kernel_rfl)) HSS.o ?_;refine zae fun K h=>?_; go_simp; refine h _ ?_; clear h K;refine zaq 6 rfl (by kernel_rfl) (by kernel_rfl) (by kernel_rfl) (fun _ _ _ _ h=>h) rfl HSS.o (fun K hK=>?_); go_simp; refine hK _ ?_; clear hK K;refine zbu 7 rfl (by kernel_rfl) (by kernel_rfl) (by kernel_rfl) (fun _ _ _ _ h=>h) (I j) rfl (fun w' hS=>by have q0:=zad (i:=1) hS.2.1 rfl; go_simp) HSS.o ?_;refine zae fun K h=>?_; go_simp; refine h _ ?_; clear h K
  refine zaq 8 rfl (by kernel_rfl) (by kernel_rfl) (by kernel_rfl) (fun _ _ _ _ h=>h) rfl HSS.o (fun K hK=>?_); go_simp; refine hK _ ?_; clear hK K;refine zaq 9 rfl (by kernel_rfl) (by kernel_rfl) (by kernel_rfl) (fun _ _ _ _ h=>h) rfl HSS.o (fun K hK=>?_); go_simp; refine hK _ ?_; clear hK K;refine zbu 10 rfl (by kernel_rfl) (by kernel_rfl) (by kernel_rfl) (fun _ _ _ _ h=>h) (I gen) rfl (fun w' hS=>by have q0:=zad (i:=4) hS.1 rfl; go_simp) HSS.o ?_;refine zae fun K h=>?_; go_simp; refine h _ ?_; clear h K;refine zaq 11 rfl (by kernel_rfl) (by kernel_rfl) (by kernel_rfl) (fun _ _ _ _ h=>h) rfl HSS.o (fun K hK=>?_); go_simp; refine hK _ ?_; clear hK K;refine zbu 12 rfl (by kernel_rfl) (by kernel_rfl) (by kernel_rfl) (fun _ _ _ _ h=>h) (.bool up) rfl (fun w' hS=>by have q0:=zad (i:=16) hS.1 rfl; go_simp) HSS.o ?_;refine zae fun K h=>?_; go_simp; refine h _ ?_; clear h K;replace zai:=zbx zai ed;replace H:=zhd (H.o.ext ed);replace HC1:=zrx HC1 ed;replace HC2:=zrx HC2 ed;replace HC3:=zrx HC3 ed;replace EW:=zhd (EW.o.trans ed);refine zfu 13 18 (by kernel_rfl) ?_ ?_
  ·refine zdA rfl rfl 25 #[.agg #[kcalls,I kat,.bool ksent,I kgen,kbox,kgot],I j,I gen,.bool up] (by go_simp) ?_;refine (ze2 ⟨kl,kat,ksent,kgen,kbl,kgl⟩ kcalls kbox kgot j gen up wd B HC1.o HC2.o HC3.o HCB.o.1 HCB.o.2.1 HCB.o.2.2).to fun r wg eg hr=>?_;rw [HGC.o] at hr;simp only [] at hr;obtain ⟨cs,bv,rfl,hcs,hbv⟩:=zix hr;obtain ⟨n1,n2,n3,rfl,r1,r2,r3⟩:=zdW hcs;obtain ⟨na1,nc1,rfl⟩:=zag r1.o;obtain ⟨na2,nc2,rfl⟩:=zag r2.o;obtain ⟨na3,nc3,rfl⟩:=zag r3.o;clear r1 r2 r3 hr;clear HSS;replace zaa:=zbx zaa eg;replace zac:=zbx zac eg;replace HRG:=zrx HRG eg;refine ⟨_,rfl,⟨zaa.o,zac.o,HRG.o.o⟩,?_⟩;have HSS:Hid (wg.heap[b0]?=some (.cells #[.slice ca sc.length cc,.slice ua su.length uc,.slice aa sa.length ac,.slice pa sp.length pc,I gen,.slice xa bl.length xc,.bool busy,I nc,I nt,I nk,I na,I no,I nn,.slice la pl.length lc,I se,I sn,.bool up,I pause,I falls,.slice (some ⟨kb,ko,none⟩) cls.length kc] 45 (0,0))/\wg.heap[b1]?=some (.cells #[I 1,I j] 64 (0,0))/\wg.rangeAt kb (ko+j * 6) [kcalls,I kat,.bool ksent,I kgen,kbox,kgot]):=⟨zaa.o,zac.o,HRG.o.o⟩;refine zae fun K h=>?_; go_simp; refine h _ ?_; clear h K;refine zaq 14 rfl (by kernel_rfl) (by kernel_rfl) (by kernel_rfl) (fun _ _ _ _ h=>h) rfl HSS.o (fun K hK=>?_); go_simp; refine hK _ ?_; clear hK K;refine zaq 15 rfl (by kernel_rfl) (by kernel_rfl) (by kernel_rfl) (fun _ _ _ _ h=>h) rfl HSS.o (fun K hK=>?_); go_simp; refine hK _ ?_; clear hK K;refine zaq 16 rfl (by kernel_rfl) (by kernel_rfl) (by kernel_rfl) (fun _ _ _ _ h=>h) rfl HSS.o (fun K hK=>?_); go_simp; refine hK _ ?_; clear hK K;refine zaq 17 rfl (by kernel_rfl) (by kernel_rfl) (by kernel_rfl) (fun _ _ _ _ h=>h) rfl HSS.o (fun K hK=>?_); go_simp; refine hK _ ?_; clear hK K;refine zdG 18 (by kernel_rfl) (zcL rfl rfl 56 zC (by kernel_rfl) (fun b3 wa MA=>⟨?_,?_⟩))
   ·exact ⟨MA.o.old zaa.o,MA.o.old zac.o,(HRG.o.ext MA.o.ext).o⟩
   have za5:Hid (b0 < b3):=by unfold Hid; have q:=(zlt zaa); have q2:=MA.o.at_; omega
   have zaX:Hid (b1 < b3):=by unfold Hid; have q:=(zlt zac); have q2:=MA.o.at_; omega
   have HB3:Hid (w3_.heap.size<=b3):=by unfold Hid; have q:=HLEK.o; have q2:=MA.o.at_; have q3:=eg.size; omega
   have hw1:∀ k,k < wg.heap.size->(B k∨wd.heap.size<=k)->(B k/\k≠b3):=fun k hk h=>⟨by
    rcases h with h | h
    ·exact h
    ·exact HK.o.2.1 k (by have q:=HLEK.o; have q2:=HSZK.o; omega),by have q2:=MA.o.at_; omega⟩
   have HNC:=zhd ((hcs.widen (B:=(fun k=>B k/\k≠b3)) hw1).ext MA.o.ext);have HNB:=zhd ((hbv.widen (B:=(fun k=>B k/\k≠b3)) hw1).ext MA.o.ext);have HEX:=zhd ((HED.o.trans eg).trans MA.o.ext);replace HRG:=zhd ((HRG.o.widen (B:=(fun k=>B k/\k≠b3)) (fun k hk h=>hw1 k hk (.inl h))).ext MA.o.ext);have zax:=zhd MA.o.block;clear hcs hbv hw1 HSS;replace zaa:=zhd (MA.o.old zaa.o);replace zac:=zhd (MA.o.old zac.o);have HSS:Hid (wa.heap[b0]?=some (.cells #[.slice ca sc.length cc,.slice ua su.length uc,.slice aa sa.length ac,.slice pa sp.length pc,I gen,.slice xa bl.length xc,.bool busy,I nc,I nt,I nk,I na,I no,I nn,.slice la pl.length lc,I se,I sn,.bool up,I pause,I falls,.slice (some ⟨kb,ko,none⟩) cls.length kc] 45 (0,0))/\wa.heap[b1]?=some (.cells #[I 1,I j] 64 (0,0))/\wa.rangeAt kb (ko+j * 6) [kcalls,I kat,.bool ksent,I kgen,kbox,kgot]):=⟨zaa.o,zac.o,HRG.o.o⟩;refine zae fun K h=>?_; go_simp; refine h _ ?_; clear h K;refine zbK 19 (by kernel_rfl) rfl rfl 56 (.tmp 6) (.tmp 47) rfl b3 0 rfl [.slice na1 ol.length nc1,I oat,.bool osent,I ogen,.slice na2 xl.length nc2,.slice na3 gl.length nc3] rfl zax.o (Nat.le_of_ble_eq_true rfl) (by kernel_rfl) (zbB rfl) #[.slice na1 ol.length nc1,I oat,.bool osent,I ogen,.slice na2 xl.length nc2,.slice na3 gl.length nc3] ((zcc _ _ _ (Nat.le_of_ble_eq_true rfl)).trans rfl) (fun wz MZ=>⟨?_,?_⟩)
   ·exact ⟨MZ.o.old zaa.o (Nat.ne_of_lt za5.o),MZ.o.old zac.o (Nat.ne_of_lt zaX.o),(MZ.o.rd HRG.o (fun h=>h.2 rfl)).o⟩
   clear HSS;have HSS:Hid (wz.heap[b0]?=some (.cells #[.slice ca sc.length cc,.slice ua su.length uc,.slice aa sa.length ac,.slice pa sp.length pc,I gen,.slice xa bl.length xc,.bool busy,I nc,I nt,I nk,I na,I no,I nn,.slice la pl.length lc,I se,I sn,.bool up,I pause,I falls,.slice (some ⟨kb,ko,none⟩) cls.length kc] 45 (0,0))/\wz.heap[b1]?=some (.cells #[I 1,I j] 64 (0,0))/\wz.rangeAt kb (ko+j * 6) [kcalls,I kat,.bool ksent,I kgen,kbox,kgot]):=⟨MZ.o.old zaa.o (Nat.ne_of_lt za5.o),MZ.o.old zac.o (Nat.ne_of_lt zaX.o),(MZ.o.rd HRG.o (fun h=>h.2 rfl)).o⟩;refine zae fun K h=>?_; go_simp; refine h _ ?_; clear h K;refine zaD 20 (by kernel_rfl) rfl rfl _ rfl HSS.o ?_;refine zae fun K h=>?_; go_simp; refine h _ ?_; clear h K;refine zaD 21 (by kernel_rfl) rfl rfl _ rfl HSS.o ?_;refine zae fun K h=>?_; go_simp; refine h _ ?_; clear h K;refine wpAnyH_done (by kernel_rfl) ?_ _;clear HSS;go_wp2_with fail
   go_meet
   case rel=>exact ⟨b3,_,rfl,rfl,HB3.o,MZ.o.block,MZ.o.ext HEX.o HB3.o,MZ.o.rd HNC.o (fun h=>h.2 rfl),MZ.o.rd HNB.o (fun h=>h.2 rfl)⟩
  ·refine zcL rfl rfl 56 zC (by kernel_rfl) (fun b3 wa MA=>⟨?_,?_⟩)
   ·exact ⟨MA.o.old zaa.o,MA.o.old zac.o,(HRG.o.ext MA.o.ext).o⟩
   have za5:Hid (b0 < b3):=by unfold Hid; have q:=(zlt zaa); have q2:=MA.o.at_; omega
   have zaX:Hid (b1 < b3):=by unfold Hid; have q:=(zlt zac); have q2:=MA.o.at_; omega
   have HB3:Hid (w3_.heap.size<=b3):=by unfold Hid; have q:=HLEK.o; have q2:=MA.o.at_; omega
   have hw1:∀ k,k < wd.heap.size->B k->(B k/\k≠b3):=fun k hk h=>⟨h,by have q2:=MA.o.at_; omega⟩;replace HC1:=zhd ((HC1.o.widen (B:=(fun k=>B k/\k≠b3)) hw1).ext MA.o.ext);replace HC2:=zhd ((HC2.o.widen (B:=(fun k=>B k/\k≠b3)) hw1).ext MA.o.ext);replace HC3:=zhd ((HC3.o.widen (B:=(fun k=>B k/\k≠b3)) hw1).ext MA.o.ext);replace HRG:=zhd ((HRG.o.widen (B:=(fun k=>B k/\k≠b3)) hw1).ext MA.o.ext);have zax:=zhd MA.o.block;clear hw1 HSS;replace zaa:=zhd (MA.o.old zaa.o);replace zac:=zhd (MA.o.old zac.o);have HSS:Hid (wa.heap[b0]?=some (.cells #[.slice ca sc.length cc,.slice ua su.length uc,.slice aa sa.length ac,.slice pa sp.length pc,I gen,.slice xa bl.length xc,.bool busy,I nc,I nt,I nk,I na,I no,I nn,.slice la pl.length lc,I se,I sn,.bool up,I pause,I falls,.slice (some ⟨kb,ko,none⟩) cls.length kc] 45 (0,0))/\wa.heap[b1]?=some (.cells #[I 1,I j] 64 (0,0))/\wa.rangeAt kb (ko+j * 6) [kcalls,I kat,.bool ksent,I kgen,kbox,kgot]):=⟨zaa.o,zac.o,HRG.o.o⟩;refine zae fun K h=>?_; go_simp; refine h _ ?_; clear h K;refine zcU 13 (by kernel_rfl) rfl rfl 25 #[.agg #[kcalls,I kat,.bool ksent,I kgen,kbox,kgot],I j,I gen,.bool up] (by go_simp) ?_;refine (ze2 ⟨kl,kat,ksent,kgen,kbl,kgl⟩ kcalls kbox kgot j gen up wa (fun k=>B k/\k≠b3) HC1.o HC2.o HC3.o HCB.o.1 HCB.o.2.1 HCB.o.2.2).to fun r wg eg hr=>?_;rw [HGC.o] at hr;simp only [] at hr;obtain ⟨cs,bv,rfl,hcs,hbv⟩:=zix hr;obtain ⟨n1,n2,n3,rfl,r1,r2,r3⟩:=zdW hcs;obtain ⟨na1,nc1,rfl⟩:=zag r1.o;obtain ⟨na2,nc2,rfl⟩:=zag r2.o;obtain ⟨na3,nc3,rfl⟩:=zag r3.o;clear r1 r2 r3 hr
   have hw1:∀ k,k < wg.heap.size->((B k/\k≠b3)∨wa.heap.size<=k)->(B k/\k≠b3):=fun k hk h=>by
    rcases h with h | h
    ·exact h
    ·have q:=HLEK.o;have q2:=HSZK.o;have q3:=MA.o.size;have q4:=MA.o.at_;exact ⟨HK.o.2.1 k (by omega),by omega⟩
   have HNC:=zhd (hcs.widen (B:=(fun k=>B k/\k≠b3)) hw1);have HNB:=zhd (hbv.widen (B:=(fun k=>B k/\k≠b3)) hw1);have HEX:=zhd ((HED.o.trans MA.o.ext).trans eg);clear hcs hbv hw1 HSS;replace HRG:=zhd (HRG.o.ext eg);replace zaa:=zhd (zcR zaa.o eg);replace zac:=zhd (zcR zac.o eg);refine ⟨_,rfl,⟨zaa.o,zac.o,HRG.o.o⟩,?_⟩;have HSS:Hid (wg.heap[b0]?=some (.cells #[.slice ca sc.length cc,.slice ua su.length uc,.slice aa sa.length ac,.slice pa sp.length pc,I gen,.slice xa bl.length xc,.bool busy,I nc,I nt,I nk,I na,I no,I nn,.slice la pl.length lc,I se,I sn,.bool up,I pause,I falls,.slice (some ⟨kb,ko,none⟩) cls.length kc] 45 (0,0))/\wg.heap[b1]?=some (.cells #[I 1,I j] 64 (0,0))/\wg.rangeAt kb (ko+j * 6) [kcalls,I kat,.bool ksent,I kgen,kbox,kgot]):=⟨zaa.o,zac.o,HRG.o.o⟩;refine zae fun K h=>?_; go_simp; refine h _ ?_; clear h K;refine zaq 14 rfl (by kernel_rfl) (by kernel_rfl) (by kernel_rfl) (fun _ _ _ _ h=>h) rfl HSS.o (fun K hK=>?_); go_simp; refine hK _ ?_; clear hK K;refine zaq 15 rfl (by kernel_rfl) (by kernel_rfl) (by kernel_rfl) (fun _ _ _ _ h=>h) rfl HSS.o (fun K hK=>?_); go_simp; refine hK _ ?_; clear hK K;refine zaq 16 rfl (by kernel_rfl) (by kernel_rfl) (by kernel_rfl) (fun _ _ _ _ h=>h) rfl HSS.o (fun K hK=>?_); go_simp; refine hK _ ?_; clear hK K;refine zaq 17 rfl (by kernel_rfl) (by kernel_rfl) (by kernel_rfl) (fun _ _ _ _ h=>h) rfl HSS.o (fun K hK=>?_); go_simp; refine hK _ ?_; clear hK K;replace zax:=zhd (zcR zax.o eg);refine zbK 19 (by kernel_rfl) rfl rfl 56 (.tmp 6) (.tmp 47) rfl b3 0 rfl [.slice na1 ol.length nc1,I oat,.bool osent,I ogen,.slice na2 xl.length nc2,.slice na3 gl.length nc3] rfl zax.o (Nat.le_of_ble_eq_true rfl) (by kernel_rfl) (zbB rfl) #[.slice na1 ol.length nc1,I oat,.bool osent,I ogen,.slice na2 xl.length nc2,.slice na3 gl.length nc3] ((zcc _ _ _ (Nat.le_of_ble_eq_true rfl)).trans rfl) (fun wz MZ=>⟨?_,?_⟩)
   ·exact ⟨MZ.o.old zaa.o (Nat.ne_of_lt za5.o),MZ.o.old zac.o (Nat.ne_of_lt zaX.o),(MZ.o.rd HRG.o (fun h=>h.2 rfl)).o⟩
   clear HSS;have HSS:Hid (wz.heap[b0]?=some (.cells #[.slice ca sc.length cc,.slice ua su.length uc,.slice aa sa.length ac,.slice pa sp.length pc,I gen,.slice xa bl.length xc,.bool busy,I nc,I nt,I nk,I na,I no,I nn,.slice la pl.length lc,I se,I sn,.bool up,I pause,I falls,.slice (some ⟨kb,ko,none⟩) cls.length kc] 45 (0,0))/\wz.heap[b1]?=some (.cells #[I 1,I j] 64 (0,0))/\wz.rangeAt kb (ko+j * 6) [kcalls,I kat,.bool ksent,I kgen,kbox,kgot]):=⟨MZ.o.old zaa.o (Nat.ne_of_lt za5.o),MZ.o.old zac.o (Nat.ne_of_lt zaX.o),(MZ.o.rd HRG.o (fun h=>h.2 rfl)).o⟩;refine zae fun K h=>?_; go_simp; refine h _ ?_; clear h K;refine zaD 20 (by kernel_rfl) rfl rfl _ rfl HSS.o ?_;refine zae fun K h=>?_; go_simp; refine h _ ?_; clear h K;refine zaD 21 (by kernel_rfl) rfl rfl _ rfl HSS.o ?_;refine zae fun K h=>?_; go_simp; refine h _ ?_; clear h K;refine wpAnyH_done (by kernel_rfl) ?_ _;clear HSS;go_wp2_with fail
   go_meet
   case rel=>exact ⟨b3,_,rfl,rfl,HB3.o,MZ.o.block,MZ.o.ext HEX.o HB3.o,MZ.o.rd HNC.o (fun h=>h.2 rfl),MZ.o.rd HNB.o (fun h=>h.2 rfl)⟩
 case rest =>
  rename World=>wc;obtain ⟨b3,cs,rfl,rfl,hb3,hblk,hex,hcn,hby⟩:=hcut;obtain ⟨n1,n2,n3,rfl,r1,r2,r3⟩:=zdW hcn;obtain ⟨na1,nc1,rfl⟩:=zag r1.o;obtain ⟨na2,nc2,rfl⟩:=zag r2.o;obtain ⟨na3,nc3,rfl⟩:=zag r3.o;obtain ⟨ya,yc,rfl⟩:=zao hby.o;clear hcn;obtain ⟨B1,HB1⟩:=zEx B b3;have hnar:∀ k,k < w3_.heap.size->B k->B1 k:=fun k hk h=>(HB1.o k).2 ⟨h,by have q2:=hb3; omega⟩;replace zaF:Hid (¬ B1 b0):=fun h=>zaF.o ((HB1.o _).1 h).1;replace zas:Hid (¬ B1 b1):=fun h=>zas.o ((HB1.o _).1 h).1;replace zaN:Hid (¬ B1 b2):=fun h=>zaN.o ((HB1.o _).1 h).1;have zf1:=zIn HB1;replace H:=zhd (H.o.widen (B:=B1) hnar);clear hnar;have za5:Hid (b0 < b3):=by unfold Hid; have q:=(zlt zaa); omega
  have zax:=zhd hblk;have N1:=zhd (r1.widen (B:=B1) (fun k _ h=>(HB1.o k).2 h));have N2:=zhd (r2.widen (B:=B1) (fun k _ h=>(HB1.o k).2 h));have N3:=zhd (r3.widen (B:=B1) (fun k _ h=>(HB1.o k).2 h));have NB:=zhd (hby.widen (B:=B1) (fun k _ h=>(HB1.o k).2 h));replace zaa:=zbx zaa hex;replace zac:=zbx zac hex;replace zai:=zbx zai hex;replace H:=zhd (H.o.ext hex);replace EW:=zhd (EW.o.trans hex);clear r1 r2 r3 hby hblk hex hb3 HC1 HC2 HC3 HRG;by_cases he:CE=0
  case neg =>
   have hb:(CE != 0)=true:=by simpa using he
   obtain ⟨rfl,rfl⟩:=Prod.mk.inj (HRES.o.1 he);clear he HRES;go_wp2_with (with_reducible refine zT ?_)
   refine zah rfl 45 (.tmp 2) rfl b0 rfl zaa zaY zaP (fun v52 H_v52=>?_);go_wp2_with (with_reducible refine zT ?_)
   refine zab rfl 45 (.tmp 4) (.tmp 52) rfl b2 rfl _ (zcv H_v52) zai rfl zaP rfl (fun w24_ M24=>?_);replace zai:=zwb M24;go_wp2
   have z0:=zap (P:=Tryz.prog) 45 zai.o zaY (by kernel_rfl);refine bodyPost_ret (by simp [results,Tryz.results16,asAddr,z0]; rfl) rfl ?_;replace H:=zHw M24 H zaN;replace EW:=zwe M24 EW zbm;exact ⟨_,rfl,EW.o,Rd.widen (A:=B1) (zbO (RdM.mc (m:=⟨⟨sc,su,sa,sp⟩,⟨gen,bl,busy,⟨nc,nt,⟨nk,na,no,nn⟩⟩,pl,⟨se,sn⟩⟩,up,pause,falls,cls⟩) H.o)) (fun k _ h=>HK.o.2.2.2 k (zf1.o k h))⟩
  subst he;by_cases hcb:CB=[]
  case pos =>
   subst hcb;obtain ⟨hMX,rfl⟩:=Prod.mk.inj (HRES.o.2.1 (by trivial) (by trivial));have HMX:=zhd hMX;clear hMX HRES;go_wp2_with (with_reducible refine zT ?_)
   refine zah rfl 45 (.tmp 2) rfl b0 rfl zaa zaY zaP (fun v70 H_v70=>?_);have k1:=zad (i:=1) zac.o rfl;go_wp2_with (with_reducible refine zT ?_)
   clear k1;refine zah rfl 56 (.tmp 6) rfl b3 rfl zax zbM zbN (fun v73 H_v73=>?_);go_wp2_with fail
   rw [show _=Value.agg #[.slice ca sc.length cc,.slice ua su.length uc,.slice aa sa.length ac,.slice pa sp.length pc,I gen,.slice xa bl.length xc,.bool busy,I nc,I nt,I nk,I na,I no,I nn,.slice la pl.length lc,I se,I sn,.bool up,I pause,I falls,.slice (some ⟨kb,ko,none⟩) cls.length kc] from H_v70.o,show _=Value.agg #[.slice na1 ol.length nc1,I oat,.bool osent,I ogen,.slice na2 xl.length nc2,.slice na3 gl.length nc3] from H_v73.o];have hkk:=zfh ⟨⟨sc,su,sa,sp⟩,⟨gen,bl,busy,⟨nc,nt,⟨nk,na,no,nn⟩⟩,pl,⟨se,sn⟩⟩,up,pause,falls,cls⟩ _ _ _ _ _ _ _ j ol oat osent ogen xl gl _ _ _ wc B1 ⟨H.o.cells,H.o.undo,H.o.answers,H.o.past,H.o.box,H.o.plan,H.o.clients⟩ N1.o N2.o N3.o HQ.o.1 HQ.o.2.1;simp only [] at hkk;rw [HMX.o] at hkk;refine hkk.to fun r wq eq hr=>?_;clear hkk;obtain ⟨cs2,rfl,hcs2⟩:=zbU hr;obtain ⟨c2,u2,a2,p2,box2,plan2,cl2,rfl,hm⟩:=zcB hcs2;obtain ⟨ca',cc',ua',uc',aa',ac',pa',pc',xa',xc',la',lc',ka',kc',rfl,rfl,rfl,rfl,rfl,rfl,rfl⟩:=hm.slices;have hsz:w.heap.size+3<=wc.heap.size:=by have q:=(zlt zai); have q2:=zb5.o; omega
   have hz3:b3 < wc.heap.size:=(zlt zax)
   have HM:=zhd (hm.widen (B:=B1) (fun k _ h=>by
    rcases h with h | h
    ·exact h
    ·exact (HB1.o k).2 ⟨HK.o.2.1 k (by omega),by omega⟩))
   clear hr hcs2 hm hsz;go_wp2_with (with_reducible refine zT ?_)
   replace zai:=zbx zai eq;refine zab rfl 45 (.tmp 4) (.tmp 74) rfl b2 rfl [.slice ca' (RX).store.cells.length cc',.slice ua' (RX).store.undo.length uc',.slice aa' (RX).store.answers.length ac',.slice pa' (RX).store.past.length pc',I (RX).server.gen,.slice xa' (RX).server.box.length xc',.bool (RX).server.busy,I (RX).server.now.client,I (RX).server.now.token,I (RX).server.now.call.kind,I (RX).server.now.call.name,I (RX).server.now.call.other,I (RX).server.now.call.n,.slice la' (RX).server.plan.length lc',I (RX).server.says.err,I (RX).server.says.n,.bool (RX).up,I (RX).pause,I (RX).falls,.slice ka' (RX).clients.length kc'] (rfl) zai rfl zaP rfl (fun w24_ M24=>?_);replace zai:=zwb M24;go_wp2
   have z0:=zap (P:=Tryz.prog) 45 zai.o zaY (by kernel_rfl);refine bodyPost_ret (by simp [results,Tryz.results16,asAddr,z0]; rfl) rfl ?_;replace EW:=zwe M24 (zhd (EW.o.trans eq)) zbm;replace HM:=zHw M24 HM zaN;exact ⟨_,rfl,EW.o,Rd.widen (A:=B1) (zbO (RdM.mc (m:=RX) HM.o)) (fun k _ h=>HK.o.2.2.2 k (zf1.o k h))⟩
  have hlen:(0:Int) < (CB.length:Int):=by
   cases CB with
   | nil=>exact absurd rfl hcb
   | cons b l=>simp only [List.length_cons]; omega
  go_wp2_with (with_reducible refine zT ?_)
  refine zcb rfl 42 (.tmp 58) rfl b0 4 rfl zaa [I gen,.slice xa bl.length xc,.bool busy,I nc,I nt,I nk,I na,I no,I nn,.slice la pl.length lc,I se,I sn] rfl zcj zda (fun v59 H_v59=>?_);go_wp2_with fail
  rw [show _=Value.agg #[I gen,.slice xa bl.length xc,.bool busy,I nc,I nt,I nk,I na,I no,I nn,.slice la pl.length lc,I se,I sn] from H_v59.o];have hkk:=zgT gen bl busy nc nt nk na no nn pl se sn _ _ _ CB wc B1 H.o.box H.o.plan NB.o HQ.o.2.2;rw [HVX.o] at hkk;simp only [] at hkk;refine hkk.to fun r wv ev hr=>?_;clear hkk;obtain ⟨vs2,rfl,hvs⟩:=zfc hr;obtain ⟨vbox,vplan,rfl,v5,v6⟩:=zmn hvs;obtain ⟨va5,vc5,rfl⟩:=zag v5.o;obtain ⟨va6,vc6,rfl⟩:=zao v6.o;have hsz:w.heap.size+3<=wc.heap.size:=by have q:=(zlt zai); have q2:=zb5.o; omega
  have hz3:b3 < wc.heap.size:=(zlt zax)
  have hin:∀ k,k < wv.heap.size->(B1 k∨wc.heap.size<=k)->B1 k:=fun k _ h=>by
   rcases h with h | h
   ·exact h
   ·exact (HB1.o k).2 ⟨HK.o.2.1 k (by omega),by omega⟩
  have V5:=zhd (v5.widen hin);have V6:=zhd (v6.widen hin);clear hr hvs v5 v6 hin hsz hz3;go_wp2_with (with_reducible refine zT ?_)
  refine zaf rfl 42 zS (by kernel_rfl) (fun b4 w24_ M24=>?_);replace zaa:=zbx zaa ev;have zce:=zld zaa M24;replace zac:=zbx zac ev;have zbp:=zld zac M24;replace zai:=zbx zai ev;have zcF:=zld zai M24;replace zax:=zbx zax ev;have zgI:=zld zax M24;obtain ⟨B11,HB11⟩:=zEx B1 b4;have zcY:=zNn HB11;have zi2:=zIn HB11;replace EW:=zhd (EW.o.trans ev);have zd6:=zOn M24 EW;have zaH:=zmb M24;go_wp2_with (with_reducible refine zT ?_)
  refine zab rfl 42 (.tmp 9) (.tmp 62) rfl b4 rfl [I VX.gen,.slice va5 VX.box.length vc5,.bool VX.busy,I VX.now.client,I VX.now.token,I VX.now.call.kind,I VX.now.call.name,I VX.now.call.other,I VX.now.call.n,.slice va6 VX.plan.length vc6,I VX.says.err,I VX.says.n] (rfl) zaH rfl zda rfl (fun w25_ M25=>?_);replace zaH:=zwb M25;replace H:=zHw M25 (zhd ((zMD HB11 M24 (zhd (H.o.ext ev))).o.ext M24.o.ext)) zcY;replace N1:=zwr M25 (zme M24 (zmd HB11 M24 (zrx N1 ev))) zcY;replace N2:=zwr M25 (zme M24 (zmd HB11 M24 (zrx N2 ev))) zcY;replace N3:=zwr M25 (zme M24 (zmd HB11 M24 (zrx N3 ev))) zcY;replace NB:=zwr M25 (zme M24 (zmd HB11 M24 (zrx NB ev))) zcY;replace V5:=zwr M25 (zme M24 (zmd HB11 M24 V5)) zcY;replace V6:=zwr M25 (zme M24 (zmd HB11 M24 V6)) zcY;replace zaF:=znw HB11 zaF;replace zaN:=znw HB11 zaN;replace zaa:=zwl M25 (zmo M24 zaa) zce;replace zac:=zwl M25 (zmo M24 zac) zbp;replace zai:=zwl M25 (zmo M24 zai) zcF;replace zax:=zwl M25 (zmo M24 zax) zgI;replace EW:=zwe M25 (zet EW M24) zd6;by_cases hve:VE=0
  case neg =>
   have hbv:(VE != 0)=true:=by simpa using hve
   obtain ⟨rfl,rfl⟩:=Prod.mk.inj (HRES.o.2.2.1 (by trivial) hcb hve);clear hve HRES hcb;go_wp2_with (with_reducible refine zT ?_)
   refine zah rfl 45 (.tmp 2) rfl b0 rfl zaa zaY zaP (fun v66 H_v66=>?_);go_wp2_with (with_reducible refine zT ?_)
   refine zab rfl 45 (.tmp 4) (.tmp 66) rfl b2 rfl _ (zcv H_v66) zai rfl zaP rfl (fun w26_ M26=>?_);replace zai:=zwb M26;go_wp2
   have z0:=zap (P:=Tryz.prog) 45 zai.o zaY (by kernel_rfl);refine bodyPost_ret (by simp [results,Tryz.results16,asAddr,z0]; rfl) rfl ?_;replace H:=zHw M26 H zaN;replace EW:=zwe M26 EW zbm;exact ⟨_,rfl,EW.o,Rd.widen (A:=B11) (zbO (RdM.mc (m:=⟨⟨sc,su,sa,sp⟩,⟨gen,bl,busy,⟨nc,nt,⟨nk,na,no,nn⟩⟩,pl,⟨se,sn⟩⟩,up,pause,falls,cls⟩) H.o)) (fun k _ h=>HK.o.2.2.2 k (zf1.o k (zi2.o k h)))⟩
  subst hve;obtain ⟨hMX,rfl⟩:=Prod.mk.inj (HRES.o.2.2.2 (by trivial) hcb (by trivial));have HMX:=zhd hMX;clear hMX HRES hcb;go_wp2_with (with_reducible refine zT ?_)
  refine zah rfl 42 (.tmp 9) rfl b4 rfl zaH zcj zda (fun v68 H_v68=>?_);go_wp2_with (with_reducible refine zT ?_)
  refine zal rfl 42 (.tmp 69) (.tmp 68) rfl b0 4 rfl _ (zcv H_v68) zaa rfl zda rfl [.slice ca sc.length cc,.slice ua su.length uc,.slice aa sa.length ac,.slice pa sp.length pc,I VX.gen,.slice va5 VX.box.length vc5,.bool VX.busy,I VX.now.client,I VX.now.token,I VX.now.call.kind,I VX.now.call.name,I VX.now.call.other,I VX.now.call.n,.slice va6 VX.plan.length vc6,I VX.says.err,I VX.says.n,.bool up,I pause,I falls,.slice (some ⟨kb,ko,none⟩) cls.length kc] rfl (fun w26_ M26=>?_);replace zaa:=zwb M26;go_wp2_with (with_reducible refine zT ?_)
  refine zah rfl 45 (.tmp 2) rfl b0 rfl zaa zaY zaP (fun v70 H_v70=>?_);replace zac:=zwg M26 zac zav;have k1:=zad (i:=1) zac.o rfl;go_wp2_with (with_reducible refine zT ?_)
  clear k1;replace zax:=zwg M26 zax za5;refine zah rfl 56 (.tmp 6) rfl b3 rfl zax zbM zbN (fun v73 H_v73=>?_);go_wp2_with fail
  rw [show _=Value.agg #[.slice ca sc.length cc,.slice ua su.length uc,.slice aa sa.length ac,.slice pa sp.length pc,I VX.gen,.slice va5 VX.box.length vc5,.bool VX.busy,I VX.now.client,I VX.now.token,I VX.now.call.kind,I VX.now.call.name,I VX.now.call.other,I VX.now.call.n,.slice va6 VX.plan.length vc6,I VX.says.err,I VX.says.n,.bool up,I pause,I falls,.slice (some ⟨kb,ko,none⟩) cls.length kc] from H_v70.o,show _=Value.agg #[.slice na1 ol.length nc1,I oat,.bool osent,I ogen,.slice na2 xl.length nc2,.slice na3 gl.length nc3] from H_v73.o];replace H:=zHw M26 H zaF;replace N1:=zwr M26 N1 zaF;replace N2:=zwr M26 N2 zaF;replace N3:=zwr M26 N3 zaF;replace V5:=zwr M26 V5 zaF;replace V6:=zwr M26 V6 zaF;have hkk:=zfh ⟨⟨sc,su,sa,sp⟩,VX,up,pause,falls,cls⟩ _ _ _ _ _ _ _ j ol oat osent ogen xl gl _ _ _ w26_ B11 ⟨H.o.cells,H.o.undo,H.o.answers,H.o.past,V5.o,V6.o,H.o.clients⟩ N1.o N2.o N3.o HQ.o.1 HQ.o.2.1;simp only [] at hkk;rw [HMX.o] at hkk;refine hkk.to fun r wq eq hr=>?_;clear hkk;obtain ⟨cs2,rfl,hcs2⟩:=zbU hr;obtain ⟨c2,u2,a2,p2,box2,plan2,cl2,rfl,hm⟩:=zcB hcs2;obtain ⟨ca',cc',ua',uc',aa',ac',pa',pc',xa',xc',la',lc',ka',kc',rfl,rfl,rfl,rfl,rfl,rfl,rfl⟩:=hm.slices;replace zai:=zwg M26 zai zaR;have hsz:w.heap.size+3<=w26_.heap.size:=by have q:=(zlt zai); have q2:=zb5.o; omega
  have hz3:b3 < w26_.heap.size:=(zlt zax);replace zaH:=zwg M26 zaH zce;have hz4:b4 < w26_.heap.size:=(zlt zaH)
  have HM:=zhd (hm.widen (B:=B11) (fun k _ h=>by
   rcases h with h | h
   ·exact h
   ·exact (HB11.o k).2 ⟨(HB1.o k).2 ⟨HK.o.2.1 k (by omega),by omega⟩,by omega⟩))
  clear hr hcs2 hm hsz;go_wp2_with (with_reducible refine zT ?_)
  replace zai:=zbx zai eq;refine zab rfl 45 (.tmp 4) (.tmp 74) rfl b2 rfl [.slice ca' (RX).store.cells.length cc',.slice ua' (RX).store.undo.length uc',.slice aa' (RX).store.answers.length ac',.slice pa' (RX).store.past.length pc',I (RX).server.gen,.slice xa' (RX).server.box.length xc',.bool (RX).server.busy,I (RX).server.now.client,I (RX).server.now.token,I (RX).server.now.call.kind,I (RX).server.now.call.name,I (RX).server.now.call.other,I (RX).server.now.call.n,.slice la' (RX).server.plan.length lc',I (RX).server.says.err,I (RX).server.says.n,.bool (RX).up,I (RX).pause,I (RX).falls,.slice ka' (RX).clients.length kc'] (rfl) zai rfl zaP rfl (fun w27_ M27=>?_);replace zai:=zwb M27;go_wp2
  have z0:=zap (P:=Tryz.prog) 45 zai.o zaY (by kernel_rfl);refine bodyPost_ret (by simp [results,Tryz.results16,asAddr,z0]; rfl) rfl ?_;replace EW:=zwe M27 (zhd ((zwe M26 EW zbl).o.trans eq)) zbm;replace HM:=zHw M27 HM zaN;exact ⟨_,rfl,EW.o,Rd.widen (A:=B11) (zbO (RdM.mc (m:=RX) HM.o)) (fun k _ h=>HK.o.2.2.2 k (zf1.o k (zi2.o k h)))⟩

open Go.RowKit Go.Mk

structure Fit (m:Mc):Prop where
 cells:m.store.cells.length=11
 undo:m.store.undo.length<=1000
 answers:m.store.answers.length<=1000
 past:m.store.past.length<=1000
 right:m.up=true->m.server.busy=false->zfd m.store.cells
 clients:m.clients.length<=1000
 each:∀ c ∈ m.clients,0<=c.at_/\c.at_<=1000000/\c.got.length<=1000/\c.box.length<=1000
 box:m.server.box.length<=1000
 falls:0<=m.falls
 gen:0<=m.server.gen/\m.server.gen<=1000000
 pause:0<=m.pause/\m.pause<=1000000

theorem zmi (m:Mc) (c u a p box plan cl:Value) (kind n:Int) (w:World) (A:Nat->Prop) (h:RdM A w m c u a p box plan cl) (hf:Fit m) :
  zaJ Tryz.prog 16 #[.agg (zaL m c u a p box plan cl).toArray,.agg #[I kind,I n]] w A (fun r w'=>zge zdc (doM m kind n).1 (doM m kind n).2 r w'):=by
 have hc:=hf.cells
 by_cases h1:kind=1
 ·subst h1
  by_cases hn:n < 0∨(m.clients.length:Int)<=n
  ·exact zjJ m c u a p box plan cl n w A h hn
  ·exact zlh m c u a p box plan cl n w A h (by omega) hf.clients (fun c hc=>⟨(hf.each c hc).1,(hf.each c hc).2.1,(hf.each c hc).2.2.1⟩) hf.box
 by_cases h2:kind=2
 ·subst h2
  exact zkX m c u a p box plan cl n w A h (by omega) (by have:=hf.undo; omega) hf.answers (by have:=hf.past; omega) hf.right hf.clients (fun c hc=>(hf.each c hc).2.2.2)
 by_cases h3:kind=3
 ·subst h3
  exact zmO m c u a p box plan cl n w A h hf.falls
 by_cases h4:kind=4
 ·subst h4
  exact znz m c u a p box plan cl n w A h (by omega) hf.gen hf.pause
 exact znd m c u a p box plan cl kind n w A h h1 h2 h3 h4

open Go.RowKit Go.Mk

theorem zpT {l:List (List Cl)} (hl:za9 l) {m:Mc} {ks:List Nat} {bz:Option Nat} (h:MInv l m ks bz) {k:Nat} (hs:SizeM m k) (hk:k<=1000):Fit m where
 cells:=h.cells
 undo:=Nat.le_trans hs.undo hk
 answers:=Nat.le_trans hs.answers hk
 past:=Nat.le_trans hs.past hk
 right:=fun hu hb=>by
  have h1:bz=none:=by
   have:=h.busy
   rw [hb] at this
   cases bz with
   | none=>rfl
   | some i=>cases this
  have h2:=h.right
  rw [h.clean hu h1] at h2
  exact znS h2
 clients:=by rw [h.nc]; have:=hl.1; omega
 each:=fun c hc=>by
  obtain ⟨i,hi⟩:=List.mem_iff_getElem?.1 hc
  have h1:=(h.clients i c hi).at_
  have h2:=hs.each c hc
  rw [h1]
  omega
 box:=Nat.le_trans hs.box hk
 falls:=h.falls.1
 gen:=by
  obtain ⟨g1,g2,g3⟩:=h.gens
  have hf:=h.falls
  cases hu:m.up with
  | true=>have:=g2 hu; omega
  | false=>have:=g3 hu; omega
 pause:=by
  cases hu:m.up with
  | true=>have:=h.upp hu; omega
  | false=>have:=h.down hu; omega

end Go.Proofs.YtdmipnnfoolelagGreat

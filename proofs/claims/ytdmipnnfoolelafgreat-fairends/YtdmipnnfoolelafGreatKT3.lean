/- Texts of the proof, merged: UC UA C2 N21. -/
import Derived.Test.YtdmipnnfoolelafGreatKTA
import Derived.Test.YtdmipnnfoolelafGreatKT1
import Derived.Test.YtdmipnnfoolelafGreatKTE
import Derived.Test.YtdmipnnfoolelafGreatKTS
import Derived.Test.YtdmipnnfoolelafGreatKTL
import Derived.Test.YtdmipnnfoolelafGreatKTX
import Derived.Test.YtdmipnnfoolelafGreatKTF
import Derived.Test.YtdmipnnfoolelafGreatKTO
import Derived.Test.YtdmipnnfoolelafGreatKTM
set_option maxHeartbeats 4000000
set_option maxRecDepth 100000

namespace Go.Proofs.YtdmipnnfoolelafGreat
open Go.RowKit Go.Mk

def zih (l:List Int) (n:Nat):List Int:=l++List.replicate (n - l.length) 0
theorem zmU:∀ (L:List Value) (x:Value) (R:List Value),(L++x::R).drop (L.length+1)=R
 | [],_,_=>rfl
 | _::L,x,R=>zmU L x R
theorem zo2 {l:List Int} {n:Nat} (h:l.length < n) (x:Int):((zih l n).map I).take l.length++[I x]++((zih l n).map I).drop (l.length+1)=(zih (l++[x]) n).map I:=by
 unfold zih
 have e:n - l.length=n - (l.length+1)+1:=by omega
 rw [e,List.replicate_succ,List.map_append,List.map_cons]
 have h1:(l.map I++I 0::(List.replicate (n - (l.length+1)) 0).map I).take l.length=l.map I:=by
  rw [show l.length=(l.map I).length by simp,List.take_left]
 have h2:(l.map I++I 0::(List.replicate (n - (l.length+1)) 0).map I).drop (l.length+1)=(List.replicate (n - (l.length+1)) 0).map I:=by
  have:=zmU (l.map I) (I 0) ((List.replicate (n - (l.length+1)) 0).map I)
  rwa [List.length_map] at this
 rw [h1,h2]
 simp
theorem zo3 {l:List Int} {n:Nat} (h:l.length=n):zih l n=l:=by simp [zih,h]
theorem zha:∀ (s:List (Int×Int)) (m:Mc),(zda m s).length=s.length
 | [],_=>rfl
 | p::s,m=>by
  show ((doM m p.1 p.2).2::zda (doM m p.1 p.2).1 s).length=_
  rw [List.length_cons,zha s,List.length_cons]
theorem zte (n:Nat):(madeCells (Value.int IntKind.i64 0).cells (n * 1)).toList=(zih [] n).map I:=by
 refine (List.eq_replicate_iff.2 ⟨?_,?_⟩:_=List.replicate n (I 0)).trans (by simp [zih])
 ·rw [Array.length_toList,size_madeCells,Nat.mul_one]
 ·intro b hb
  simp only [madeCells,Array.toList_map,List.mem_map] at hb
  obtain ⟨i,_,rfl⟩:=hb
  have:i % (Value.int IntKind.i64 0).cells.size=0:=Nat.mod_one i
  rw [this]
  rfl
theorem zoF (A:Nat->Prop) (w:World):RdM A w zeroMc (.slice none 0 0) (.slice none 0 0) (.slice none 0 0) (.slice none 0 0) (.slice none 0 0) (.slice none 0 0) (.slice none 0 0) :=
 ⟨Rd.all fun w=>zin w,Rd.all fun w=>zbu w,Rd.all fun w=>zas.nil w,Rd.all fun w=>zas.nil w,Rd.all fun w=>zas.nil w,Rd.all fun w=>zbu w,Rd.all fun w=>zas.nil w⟩

theorem zmy {l:List (List Cl)}:∀ (s:List (Int×Int)) {m:Mc},GzM l m->GzM l (zcu m s)
 | [],_,h=>h
 | p::s,m,h=>zmy s (m:=(doM m p.1 p.2).1) (zqG h p.1 p.2)

def zqA (m:Mc) (steps:List (Int×Int)) (r:Value) (w:World):Prop:=∃ (cs:List Value) (es:Value),r=.tuple #[.agg cs.toArray,es]/\zc1 w cs (zcu m steps)/\zby w es (zda m steps)
def zjV:Prop:=∀ (l:List (List Cl)) (m:Mc) (c u a p box plan cl sv:Value) (steps:List (Int×Int)) (w:World) (A:Nat->Prop),RdM A w m c u a p box plan cl->GzM l m->zax w sv steps->steps.length<=2000 ->
 zaK Tryz.prog 23 #[.agg (zaH m c u a p box plan cl).toArray,sv] w A (zqA m steps)
theorem zoG {m:Mc} {steps:List (Int×Int)} {r:Value} {A:Nat->Prop} {w:World} (h:Rd A (zqA m steps r) w):∃ (cs:List Value) (es:Value),r=.tuple #[.agg cs.toArray,es]/\Rd A (fun w=>zc1 w cs (zcu m steps)) w/\Rd A (fun w=>zby w es (zda m steps)) w:=by
 obtain ⟨cs,es,e1,h1,h2⟩:=h.o
 have key:∀ w',zqA m steps r w'->zc1 w' cs (zcu m steps)/\zby w' es (zda m steps):=fun w' hw=>by
  obtain ⟨cs',es',e1',h3,h4⟩:=hw
  rw [e1] at e1'
  simp only [Value.tuple.injEq,Array.mk.injEq,List.cons.injEq,Value.agg.injEq,and_true] at e1'
  obtain ⟨q1,q2⟩:=e1'
  have q1:cs=cs':=by simpa using q1
  subst q1 q2
  exact ⟨h3,h4⟩
 exact ⟨cs,es,e1,h.imp fun w' hw=>(key w' hw).1,h.imp fun w' hw=>(key w' hw).2⟩

theorem zrK (hDo:zrz):zjV:=fun l m c u a p box plan cl sv steps w A h hgz hs hlen=>by
 unfold zaK
 obtain ⟨sa0,scap,rfl,s1,s2,s3⟩:=hs.form
 unfold maxLen at s2
 have HS3:=zhd s3
 have HDO:=zhd hDo
 have GZ:=zhd hgz
 obtain ⟨ca,cc,ua,uc,aa,ac,pa,pc,xa,xc,la,lc,ka,kc,rfl,rfl,rfl,rfl,rfl,rfl,rfl⟩:=h.slices
 obtain ⟨E,HE0⟩:∃ E:Nat->Prop,Hid (∀ k,E k↔(A k/\k < w.heap.size)):=⟨_,fun _=>Iff.rfl⟩
 have H:=zhd (h.widen (B:=E) (fun k hk h=>(HE0.o k).2 ⟨h,hk⟩))
 clear h hgz hs s3 hDo
 obtain ⟨j0,hj,hy0,hy1,hy2⟩:=info_parts Tryz.infoErrno
 have EW:=zhd (Ext.refl w)
 go_enter Tryz.func23,Tryz.ntmps23
 go_wp2_with (with_reducible refine zT ?_)
 refine zaj rfl 44 (.tmp 0) rfl #[.slice ca m.store.cells.length cc,.slice ua m.store.undo.length uc,.slice aa m.store.answers.length ac,.slice pa m.store.past.length pc,I m.server.gen,.slice xa m.server.box.length xc,.bool m.server.busy,I m.server.now.client,I m.server.now.token,I m.server.now.call.kind,I m.server.now.call.name,I m.server.now.call.other,I m.server.now.call.n,.slice la m.server.plan.length lc,I m.server.says.err,I m.server.says.n,.bool m.up,I m.pause,I m.falls,.slice ka m.clients.length kc] rfl (fun b0 w1_ M1=>?_)
 have zab:=zmb M1
 replace H:=zhd (H.o.ext M1.o.ext)
 replace EW:=zet EW M1
 have zaF:Hid (¬ E b0):=fun h=>by have q:=((HE0.o _).1 h).2; have q1:=M1.o.at_; omega
 have zbm:Hid (w.heap.size<=b0):=by unfold Hid; have q1:=M1.o.at_; omega
 go_wp2_with (with_reducible refine zT ?_)
 refine zae rfl 44 zM (by kernel_rfl) (fun b1 w2_ M2=>?_)
 have zaw:=zld zab M2
 replace zab:=zmo M2 zab
 have zad:=zmb M2
 replace H:=zhd (H.o.ext M2.o.ext)
 replace EW:=zet EW M2
 have zat:Hid (¬ E b1):=fun h=>by have q:=((HE0.o _).1 h).2; have q1:=zaw.o; have q2:=zbm.o; omega
 have zaZ:Hid (w.heap.size<=b1):=by unfold Hid; have q1:=zaw.o; have q2:=zbm.o; omega
 have HIN:Hid (∀ j,E j->j < w2_.heap.size/\(A j∨w.heap.size<=j)):=fun j h=>⟨Nat.lt_of_lt_of_le ((HE0.o _).1 h).2 EW.o.size,.inl ((HE0.o _).1 h).1⟩
 go_wp2_with (at_make; refine wpList_make_full _ rfl _ _ 45 rfl w2_.heap.size 37 j0 (.int .i64 0) 1 zti hj hy0 hy1 .i64 .i64 _ _ steps.length rfl rfl rfl rfl (by rw [hy2]; omega) (by unfold maxLen; omega) (Nat.le_refl _) ?_; intro w5 hown hgrow)
 have e5:Ext w2_ w5:=(Ext.refl w2_).grown hgrow (fun k hk=>by cases hk)
 rw [zte] at hown
 have hbm:b1 < w2_.heap.size:=(zlt zad)
 obtain ⟨g,HGG⟩:∃ g,Hid (w2_.heap.size=g):=⟨_,rfl⟩
 rw [HGG.o] at hown hbm
 have OE:=zhd (zbj hown (show b1+1<=g from hbm))
 simp only [show w2_.heap.size=g from HGG.o]
 have N_g:Hid (¬ E g):=fun h=>by have q:=(HIN.o _ h).1; have q2:=HGG.o; omega
 have zsC:Hid (b1 < g):=hbm
 have znG:Hid (b0 < g):=by unfold Hid; have q:=zaw.o; have q2:=zsC.o; omega
 have O_g:Hid (w.heap.size<=g):=by unfold Hid; have q:=zaZ.o; have q2:=zsC.o; omega
 clear hown hgrow hbm HGG
 replace zab:=zbx zab e5
 replace zad:=zbx zad e5
 replace H:=zhd (H.o.ext e5)
 replace EW:=zhd (EW.o.trans e5)
 replace HIN:Hid (∀ j,E j->j < w5.heap.size/\(A j∨w.heap.size<=j)):=fun j h=>⟨Nat.lt_of_lt_of_le (HIN.o j h).1 e5.size,(HIN.o j h).2⟩
 clear e5 HE0
 go_loopw [14] (fun i wr=>∃ (k:Nat) (E:Nat->Prop) (mk:Mc) (c u a p box plan cl:Value),k<=steps.length/\i=I k/\mk=zcu m (steps.take k)/\RdM E wr mk c u a p box plan cl/\(∀ j,E j->j < wr.heap.size/\(A j∨w.heap.size<=j))/\¬ E b0/\¬ E b1/\¬ E g/\wr.heap[b0]?=some (.cells (zaH mk c u a p box plan cl).toArray 44 (0,0))/\wr.heap[b1]?=some (.cells zM 44 (0,0))/\wr.ownsRow (b1+1) 37 1 (.slice (some ⟨g,0,none⟩) steps.length steps.length) steps.length ((zih (zda m (steps.take k)) steps.length).map I)/\Ext w wr) (fun i _=>steps.length - (intOf i).toNat)
 case atStart=>exact ⟨0,E,m,_,_,_,_,_,_,_,Nat.zero_le _,rfl,rfl,H.o,HIN.o,zaF.o,zat.o,N_g.o,zab.o,zad.o,OE.o,EW.o⟩
 case round =>
  obtain ⟨k,E',mk,c',u',a',p',box',plan',cl',hk,rfl,hmk,hm,hE,n0,n1,ng,hb0,hb1,ho,hex⟩:=hrel
  clear zab zad H EW zaF zat N_g HIN OE
  obtain ⟨ca,cc,ua,uc,aa,ac,pa,pc,xa,xc,la,lc,ka,kc,rfl,rfl,rfl,rfl,rfl,rfl,rfl⟩:=hm.slices
  have HM:=zhd hmk
  have H:=zhd hm
  have HIN:=zhd hE
  have zaF:=zhd n0
  have zat:=zhd n1
  have N_g:=zhd ng
  have zab:Hid (wr.heap[b0]?=some (.cells #[.slice ca mk.store.cells.length cc,.slice ua mk.store.undo.length uc,.slice aa mk.store.answers.length ac,.slice pa mk.store.past.length pc,I mk.server.gen,.slice xa mk.server.box.length xc,.bool mk.server.busy,I mk.server.now.client,I mk.server.now.token,I mk.server.now.call.kind,I mk.server.now.call.name,I mk.server.now.call.other,I mk.server.now.call.n,.slice la mk.server.plan.length lc,I mk.server.says.err,I mk.server.says.n,.bool mk.up,I mk.pause,I mk.falls,.slice ka mk.clients.length kc] 44 (0,0))):=hb0
  have zad:=zhd hb1
  have OE:=zhd ho
  have EW:=zhd hex
  clear hmk hm hE n0 n1 ng hb0 hb1 ho hex
  generalize hEr:(E':Nat->Prop)=E at *
  clear hEr E'
  have GK:=zhd (zmy (steps.take k) GZ.o)
  rw [<- HM.o] at GK
  by_cases hlt:k < steps.length
  ·have HT:=zhd (zkX hlt)
   obtain ⟨sb,so,rfl,c0,c1⟩:=HS3.o k hlt
   replace c0:=EW.o.cell c0
   replace c1:=EW.o.cell c1
   generalize steps.getD k (0,0)=pp at *
   obtain ⟨kd,sn⟩:=pp
   simp only [] at c0 c1
   go_wp2_with (with_reducible refine zT ?_)
   clear c0 c1
   have OE0:=OE
   refine zae rfl 49 #[I 0,I 0] (by kernel_rfl) (fun b2 w61_ M61=>?_)
   have zaU:=zld zab M61
   have zaI:=zld zad M61
   replace zab:=zmo M61 zab
   replace zad:=zmo M61 zad
   have zak:=zmb M61
   replace H:=zhd (H.o.ext M61.o.ext)
   replace OE:=zhd (zam OE.o M61.o.ext)
   replace EW:=zet EW M61
   have ztp:Hid (g < b2):=by unfold Hid; have q:=(OE0.o.lt g rfl).2; have q1:=M61.o.at_; omega
   have zaO:Hid (¬ E b2):=fun h=>by have q:=(HIN.o _ h).1; have q1:=M61.o.at_; omega
   have zbp:Hid (w.heap.size<=b2):=by unfold Hid; have q:=zaI.o; have q2:=zaZ.o; omega
   go_wp2_with (with_reducible refine zT ?_)
   refine zac rfl 49 (.tmp 8) (.tmp 18) rfl b2 rfl [I kd,I sn] (rfl) zak rfl zqV rfl (fun w62_ M62=>?_)
   replace zab:=zwl M62 zab zaU
   replace zad:=zwl M62 zad zaI
   replace zak:=zwb M62
   replace H:=zHw M62 H zaO
   replace OE:=zhd (M62.o.owns OE.o (zck ztp.o))
   replace EW:=zwe M62 EW zbp
   go_wp2_with (with_reducible refine zT ?_)
   refine zah rfl 44 (.tmp 2) rfl b0 rfl zab zaS zaG (fun v22 H_v22=>?_)
   have q0:=zaa (i:=0) zak.o rfl
   have q1:=zaa (i:=1) zak.o rfl
   go_wp2_with fail
   clear q0 q1
   rw [H_v22.o]
   clear H_v22
   refine (HDO.o l mk 24 _ _ _ _ _ _ _ kd sn w62_ E H.o (zoX GK.o) (by decide)).to fun r w9 e9 hr=>?_
   obtain ⟨m2,er,hD⟩:∃ x y,doM mk kd sn=(x,y):=⟨_,_,rfl⟩
   rw [hD] at hr
   have HD:=zhd hD
   clear hD
   simp only [] at hr
   obtain ⟨cs,rfl,hcs⟩:=zdC hr
   obtain ⟨c2,u2,a2,p2,box2,plan2,cl2,rfl,hm2⟩:=zbX hcs
   obtain ⟨ca2,cc2,ua2,uc2,aa2,ac2,pa2,pc2,xa2,xc2,la2,lc2,ka2,kc2,rfl,rfl,rfl,rfl,rfl,rfl,rfl⟩:=hm2.slices
   clear hcs hr H
   have SC:Hid (b2 < w62_.heap.size):=(zlt zak)
   obtain ⟨E2,HE2⟩:∃ X:Nat->Prop,Hid (∀ k,X k↔((E k∨w62_.heap.size<=k)/\k < w9.heap.size)):=⟨_,fun _=>Iff.rfl⟩
   have H:=zhd (hm2.widen (B:=E2) (fun k hk h=>(HE2.o k).2 ⟨h,hk⟩))
   replace zaF:Hid (¬ E2 b0):=fun h=>by rcases ((HE2.o _).1 h).1 with q | q; exact zaF.o q; exact absurd q (by have q1:=zaw.o; have q3:=zaI.o; have q2:=SC.o; omega)
   replace zat:Hid (¬ E2 b1):=fun h=>by rcases ((HE2.o _).1 h).1 with q | q; exact zat.o q; exact absurd q (by have q3:=zaI.o; have q2:=SC.o; omega)
   replace N_g:Hid (¬ E2 g):=fun h=>by rcases ((HE2.o _).1 h).1 with q | q; exact N_g.o q; exact absurd q (by have q3:=ztp.o; have q2:=SC.o; omega)
   have HIN2:Hid (∀ j,E2 j->j < w9.heap.size/\(A j∨w.heap.size<=j)):=fun j h=>⟨((HE2.o _).1 h).2,by rcases ((HE2.o _).1 h).1 with q | q; exact (HIN.o j q).2; exact .inr (by have q1:=zbp.o; have q2:=SC.o; omega)⟩
   clear HE2 hm2 SC HIN zaO OE0
   replace zab:=zbx zab e9
   replace zad:=zbx zad e9
   replace zak:=zbx zak e9
   replace OE:=zhd (zam OE.o e9)
   replace EW:=zhd (EW.o.trans e9)
   clear e9
   go_wp2_with (with_reducible refine zT ?_)
   refine zac rfl 44 (.tmp 2) (.tmp 25) rfl b0 rfl [.slice ca2 m2.store.cells.length cc2,.slice ua2 m2.store.undo.length uc2,.slice aa2 m2.store.answers.length ac2,.slice pa2 m2.store.past.length pc2,I m2.server.gen,.slice xa2 m2.server.box.length xc2,.bool m2.server.busy,I m2.server.now.client,I m2.server.now.token,I m2.server.now.call.kind,I m2.server.now.call.name,I m2.server.now.call.other,I m2.server.now.call.n,.slice la2 m2.server.plan.length lc2,I m2.server.says.err,I m2.server.says.n,.bool m2.up,I m2.pause,I m2.falls,.slice ka2 m2.clients.length kc2] (rfl) zab rfl zaG rfl (fun w63_ M63=>?_)
   replace zab:=zwb M63
   replace zad:=zwg M63 zad zaw
   replace zak:=zwg M63 zak zaU
   replace H:=zHw M63 H zaF
   replace OE:=zhd (M63.o.owns OE.o (zem znG.o))
   replace EW:=zwe M63 EW zbm
   replace HIN2:Hid (∀ j,E2 j->j < w63_.heap.size/\(A j∨w.heap.size<=j)):=fun j h=>⟨Nat.lt_of_lt_of_le (HIN2.o j h).1 (Nat.le_of_eq M63.o.size.symm),(HIN2.o j h).2⟩
   obtain ⟨cur,hcur,hbg,hsz,htk,hn,hm⟩:=zfP OE.o
   have HEL:Hid ((zda m (steps.take k)).length=k):=by unfold Hid; rw [zha,List.length_take]; omega
   have b3:(k:Int) < (steps.length:Int):=by omega
   have b4:(0:Int)<=(k:Int):=by omega
   go_wp2_with ((with_reducible refine zst (L:=[37]) ?_ ?_); exact rfl)
   unfold Hid
   refine zcG rfl 37 (.tmp 27) (.tmp 26) rfl g k rfl [I er] rfl hcur (by rw [hsz]; simp; omega) (by kernel_rfl) (zbC rfl) _ rfl (fun wq MQ=>?_)
   have hrow:=zeB hbg hsz htk hn hm MQ.o (by simp; omega)
   have hfs:=zo2 (l:=zda m (steps.take k)) (n:=steps.length) (by rw [HEL.o]; exact hlt) er
   rw [HEL.o] at hfs
   simp only [List.length_cons,List.length_nil,Nat.zero_add] at hrow
   rw [hfs] at hrow
   have KO:=zhd hrow
   have K0:=zhd (MQ.o.old zab.o (Nat.ne_of_lt znG.o))
   have K1:=zhd (MQ.o.old zad.o (Nat.ne_of_lt zsC.o))
   have KH:=zhd (MQ.o.rdM H.o N_g.o)
   have KE:=zwe MQ EW O_g
   have KS:Hid (w63_.heap.size=wq.heap.size):=MQ.o.size.symm
   clear hrow hfs hcur hbg hsz htk hn hm MQ zab zad zak H EW OE
   go_wp2
   go_roundw
   case rel =>
    have hp:m2=zcu m (steps.take (k+1)):=by
     rw [HT.o,playM_snoc,<- HM.o]
     exact (congrArg Prod.fst HD.o).symm
    have he:zda m (steps.take (k+1))=zda m (steps.take k)++[er]:=by
     rw [HT.o,playE_snoc,<- HM.o]
     have q:=congrArg Prod.snd HD.o
     simp only [] at q
     rw [q]
    refine ⟨k+1,E2,m2,_,_,_,_,_,_,_,by omega,by go_num,hp,KH.o,fun j hj=>⟨by have q:=(HIN2.o j hj).1; have q2:=KS.o; omega,(HIN2.o j hj).2⟩,zaF.o,zat.o,N_g.o,K0.o,K1.o,?_,KE.o⟩
    rw [he]
    exact KO.o
   case measure=>simp [intOf]; omega
  ·obtain rfl:k=steps.length:=by omega
   go_wp2_with (with_reducible refine zT ?_)
   refine zah rfl 44 (.tmp 2) rfl b0 rfl zab zaS zaG (fun vf H_vf=>?_)
   go_wp2_with (with_reducible refine zT ?_)
   refine zac rfl 44 (.tmp 4) (.tmp 29) rfl b1 rfl _ (zcv H_vf) zad rfl zaG rfl (fun w41_ M41=>?_)
   replace zab:=zwl M41 zab zaw
   replace zad:=zwb M41
   replace H:=zHw M41 H zat
   replace OE:=zhd (M41.o.owns OE.o (zem zsC.o))
   replace EW:=zwe M41 EW zaZ
   go_wp2
   have z0:=zaq (P:=Tryz.prog) 44 zad.o zaS (by kernel_rfl)
   refine bodyPost_ret (by simp [results,Tryz.results23,asAddr,z0]; rfl) rfl ?_
   have ht:steps.take steps.length=steps:=List.take_length
   have hmm:=HM.o
   rw [ht] at hmm
   have hoe:=OE.o
   rw [ht,zo3 (zha steps m)] at hoe
   have r1:=(H.o.widen (B:=fun k=>A k∨w.heap.size<=k) (fun k _ h=>(HIN.o k h).2)).mc
   rw [hmm] at r1
   have r2:=(zdV hoe).widen (B:=fun k=>A k∨w.heap.size<=k) (fun k _ h=>.inr (by have q:=zaZ.o; omega))
   refine ⟨_,rfl,EW.o,(r1.and r2).imp fun w' h=>⟨_,_,(by rw [<- hmm]),h.1,?_⟩⟩
   have h2:=h.2
   unfold zby
   rw [zha]
   exact h2

theorem zrF (hNew:zov) (hEach:zjV):zke:=fun v sv l steps w A hv hs=>by
 unfold zaK
 have HSW:=zhd hs
 obtain ⟨sa0,scap,rfl,s1,s2,-⟩:=hs.form
 unfold maxLen at s2
 have HNW:=zhd hNew
 have HEA:=zhd hEach
 have HV:=zhd (hv.widen (B:=fun k=>A k/\k < w.heap.size) (fun k hk h=>⟨h,hk⟩))
 clear hv hs hNew hEach
 obtain ⟨va,vcap,rfl⟩:=zag HV.o.o
 obtain ⟨NE,HNE⟩:∃ x,Hid (zfa l=x):=⟨_,rfl⟩
 obtain ⟨NM,HNM⟩:∃ x,Hid (znv l=x):=⟨_,rfl⟩
 have EW:=zhd (Ext.refl w)
 go_enter Tryz.func11,Tryz.ntmps11
 go_wp2_with (with_reducible refine zT ?_)
 refine zae rfl 44 zM (by kernel_rfl) (fun b0 w1_ M1=>?_)
 have zab:=zmb M1
 replace EW:=zet EW M1
 have zbm:Hid (w.heap.size<=b0):=by unfold Hid; have q:=M1.o.at_; omega
 go_wp2_with fail
 refine (HNW.o _ l w1_ (fun k=>A k/\k < w.heap.size) (HV.o.ext M1.o.ext)).to fun r w2 e2 hr=>?_
 obtain ⟨c,u,a,p,box,plan,cl,rfl,hM,hrl⟩:=zjf hr HNM.o
 rw [HNE.o] at hrl ⊢
 obtain ⟨ca,cc,ua,uc,aa,ac,pa,pc,xa,xc,la,lc,ka,kc,rfl,rfl,rfl,rfl,rfl,rfl,rfl⟩:=hM.slices
 have H:=zhd hM
 have HRL:=zhd hrl
 clear hM hr hrl HV
 replace zab:=zbx zab e2
 replace EW:=zhd (EW.o.trans e2)
 clear e2
 go_wp2_with (with_reducible refine zT ?_)
 refine zae rfl 44 zM (by kernel_rfl) (fun b1 w2_ M2=>?_)
 have zaw:=zld zab M2
 replace zab:=zmo M2 zab
 have zad:=zmb M2
 replace EW:=zet EW M2
 have zaZ:Hid (w.heap.size<=b1):=by unfold Hid; have q:=zaw.o; have q2:=zbm.o; omega
 obtain ⟨E,HE⟩:∃ E:Nat->Prop,Hid (∀ k,E k↔(((A k/\k < w.heap.size)∨w1_.heap.size<=k)/\k < b1)):=⟨_,fun _=>Iff.rfl⟩
 replace H:=zhd ((H.o.widen (B:=E) (fun k hk h=>(HE.o k).2 ⟨h,by have q:=M2.o.at_; omega⟩)).ext M2.o.ext)
 have zaF:Hid (¬ E b0):=fun h=>by have q:=((HE.o _).1 h).1; have q1:=M1.o.at_; have q2:=M1.o.size; omega
 have zat:Hid (¬ E b1):=fun h=>by have q:=((HE.o _).1 h).2; omega
 have HIN:Hid (∀ j,E j->j < b1/\(A j∨w.heap.size<=j)):=fun j h=>⟨((HE.o j).1 h).2,by rcases ((HE.o j).1 h).1 with q | q; exact .inl q.1; exact .inr (by have q2:=M1.o.ext.size; omega)⟩
 go_wp2_with (with_reducible refine zT ?_)
 refine zac rfl 44 (.tmp 7) (.tmp 14) rfl b1 rfl [.slice ca NM.store.cells.length cc,.slice ua NM.store.undo.length uc,.slice aa NM.store.answers.length ac,.slice pa NM.store.past.length pc,I NM.server.gen,.slice xa NM.server.box.length xc,.bool NM.server.busy,I NM.server.now.client,I NM.server.now.token,I NM.server.now.call.kind,I NM.server.now.call.name,I NM.server.now.call.other,I NM.server.now.call.n,.slice la NM.server.plan.length lc,I NM.server.says.err,I NM.server.says.n,.bool NM.up,I NM.pause,I NM.falls,.slice ka NM.clients.length kc] (rfl) zad rfl zaG rfl (fun w3_ M3=>?_)
 replace zab:=zwl M3 zab zaw
 replace zad:=zwb M3
 replace H:=zHw M3 H zat
 replace EW:=zwe M3 EW zaZ
 by_cases hz:NE=0
 case neg =>
  have hb:(NE != 0)=true:=by simpa using hz
  have hpe:zcE l steps=NE:=by unfold zcE; rw [if_pos (by rw [HNE.o]; exact hz),HNE.o]
  go_wp2_with (with_reducible refine zT ?_)
  refine zaX rfl 44 #[] rfl zM (by kernel_rfl) (fun v18 H_v18=>?_)
  rw [H_v18.o]
  clear H_v18
  go_wp2_with (with_reducible refine zT ?_)
  refine zac rfl 44 (.tmp 4) (.tmp 18) rfl b0 rfl [.slice none 0 0,.slice none 0 0,.slice none 0 0,.slice none 0 0,I 0,.slice none 0 0,.bool false,I 0,I 0,I 0,I 0,I 0,I 0,.slice none 0 0,I 0,I 0,.bool false,I 0,I 0,.slice none 0 0] (rfl) zab rfl zaG rfl (fun w4_ M4=>?_)
  replace zab:=zwb M4
  replace zad:=zwg M4 zad zaw
  replace H:=zHw M4 H zaF
  replace EW:=zwe M4 EW zbm
  go_wp2
  have z0:=zaq (P:=Tryz.prog) 44 zab.o zaS (by kernel_rfl)
  refine bodyPost_ret (by simp [results,Tryz.results11,asAddr,z0]; rfl) rfl ?_
  have r1:=(zoF (fun k=>A k∨w.heap.size<=k) w4_).mc
  exact ⟨_,rfl,EW.o,r1.imp fun w' h=>⟨_,_,by rw [hpe]; rfl,fun h0=>absurd (hpe.symm.trans h0) hz,fun _=>⟨zeroMc,rfl,h,zin w'⟩⟩⟩
 obtain rfl:NM=za1 l:=by rw [<- HNM.o]; exact if_pos (by rw [HNE.o]; exact hz)
 subst hz
 have HL:=zhd (HRL.o rfl)
 clear HRL
 by_cases h4:steps.length<=400
 case neg =>
  have h4i:(400:Int) < (steps.length:Int):=by omega
  have hpe:zcE l steps=5:=by unfold zcE; rw [if_neg (by rw [HNE.o]; simp),if_pos (by omega)]
  go_wp2_with (with_reducible refine zT ?_)
  refine zaX rfl 44 #[] rfl zM (by kernel_rfl) (fun v23 H_v23=>?_)
  rw [H_v23.o]
  clear H_v23
  go_wp2_with (with_reducible refine zT ?_)
  refine zac rfl 44 (.tmp 4) (.tmp 23) rfl b0 rfl [.slice none 0 0,.slice none 0 0,.slice none 0 0,.slice none 0 0,I 0,.slice none 0 0,.bool false,I 0,I 0,I 0,I 0,I 0,I 0,.slice none 0 0,I 0,I 0,.bool false,I 0,I 0,.slice none 0 0] (rfl) zab rfl zaG rfl (fun w4_ M4=>?_)
  replace zab:=zwb M4
  replace zad:=zwg M4 zad zaw
  replace H:=zHw M4 H zaF
  replace EW:=zwe M4 EW zbm
  go_wp2
  have z0:=zaq (P:=Tryz.prog) 44 zab.o zaS (by kernel_rfl)
  refine bodyPost_ret (by simp [results,Tryz.results11,asAddr,z0]; rfl) rfl ?_
  have r1:=(zoF (fun k=>A k∨w.heap.size<=k) w4_).mc
  exact ⟨_,rfl,EW.o,r1.imp fun w' h=>⟨_,_,by rw [hpe]; rfl,fun h0=>absurd (hpe.symm.trans h0) (by decide),fun _=>⟨zeroMc,rfl,h,zin w'⟩⟩⟩
 have h4i:¬ (400:Int) < (steps.length:Int):=by omega
 have hpe:Hid (zcE l steps=0):=by unfold Hid zcE; rw [if_neg (by rw [HNE.o]; simp),if_neg (by omega)]
 go_wp2_with (with_reducible refine zT ?_)
 refine zah rfl 44 (.tmp 7) rfl b1 rfl zad zaS zaG (fun v25 H_v25=>?_)
 go_wp2_with fail
 rw [H_v25.o]
 clear H_v25
 refine (HEA.o l (za1 l) _ _ _ _ _ _ _ _ steps w3_ E H.o (zjb HL.o []) (HSW.o.ext EW.o) (by omega)).to fun r w9 e9 hr=>?_
 obtain ⟨m2,HM2⟩:∃ x,Hid (zcu (za1 l) steps=x):=⟨_,rfl⟩
 obtain ⟨cs,es,rfl,hcs,hes⟩:=zoG hr
 rw [HM2.o] at hcs
 obtain ⟨c2,u2,a2,p2,box2,plan2,cl2,rfl,hm2⟩:=zbX hcs
 obtain ⟨ca2,cc2,ua2,uc2,aa2,ac2,pa2,pc2,xa2,xc2,la2,lc2,ka2,kc2,rfl,rfl,rfl,rfl,rfl,rfl,rfl⟩:=hm2.slices
 clear hcs hr H
 have SC:Hid (b1 < w3_.heap.size):=(zlt zad)
 obtain ⟨E2,HE2⟩:∃ X:Nat->Prop,Hid (∀ k,X k↔((E k∨w3_.heap.size<=k)/\k < w9.heap.size)):=⟨_,fun _=>Iff.rfl⟩
 have H:=zhd (hm2.widen (B:=E2) (fun k hk h=>(HE2.o k).2 ⟨h,hk⟩))
 have HES:=zhd (hes.widen (B:=E2) (fun k hk h=>(HE2.o k).2 ⟨h,hk⟩))
 replace zaF:Hid (¬ E2 b0):=fun h=>by rcases ((HE2.o _).1 h).1 with q | q; exact zaF.o q; exact absurd q (by have q1:=zaw.o; have q2:=SC.o; omega)
 have HIN2:Hid (∀ j,E2 j->j < w9.heap.size/\(A j∨w.heap.size<=j)):=fun j h=>⟨((HE2.o _).1 h).2,by rcases ((HE2.o _).1 h).1 with q | q; exact (HIN.o j q).2; exact .inr (by have q1:=zaZ.o; have q2:=SC.o; omega)⟩
 clear HE2 hm2 hes SC HIN HE zad zat
 replace zab:=zbx zab e9
 replace EW:=zhd (EW.o.trans e9)
 clear e9
 go_wp2_with (with_reducible refine zT ?_)
 refine zae rfl 44 zM (by kernel_rfl) (fun b2 w4_ M4=>?_)
 have zaU:=zld zab M4
 replace zab:=zmo M4 zab
 have zak:=zmb M4
 replace H:=zhd (H.o.ext M4.o.ext)
 replace HES:=zme M4 HES
 replace EW:=zet EW M4
 have zaO:Hid (¬ E2 b2):=fun h=>by have q:=(HIN2.o _ h).1; have q1:=M4.o.at_; omega
 have zbp:Hid (w.heap.size<=b2):=by unfold Hid; have q:=zaU.o; have q2:=zbm.o; omega
 go_wp2_with (with_reducible refine zT ?_)
 refine zac rfl 44 (.tmp 9) (.tmp 28) rfl b2 rfl [.slice ca2 m2.store.cells.length cc2,.slice ua2 m2.store.undo.length uc2,.slice aa2 m2.store.answers.length ac2,.slice pa2 m2.store.past.length pc2,I m2.server.gen,.slice xa2 m2.server.box.length xc2,.bool m2.server.busy,I m2.server.now.client,I m2.server.now.token,I m2.server.now.call.kind,I m2.server.now.call.name,I m2.server.now.call.other,I m2.server.now.call.n,.slice la2 m2.server.plan.length lc2,I m2.server.says.err,I m2.server.says.n,.bool m2.up,I m2.pause,I m2.falls,.slice ka2 m2.clients.length kc2] (rfl) zak rfl zaG rfl (fun w5_ M5=>?_)
 replace zab:=zwl M5 zab zaU
 replace zak:=zwb M5
 replace H:=zHw M5 H zaO
 replace HES:=zwr M5 HES zaO
 replace EW:=zwe M5 EW zbp
 go_wp2_with (with_reducible refine zT ?_)
 refine zah rfl 44 (.tmp 9) rfl b2 rfl zak zaS zaG (fun vf H_vf=>?_)
 go_wp2_with (with_reducible refine zT ?_)
 refine zac rfl 44 (.tmp 4) (.tmp 30) rfl b0 rfl _ (zcv H_vf) zab rfl zaG rfl (fun w6_ M6=>?_)
 replace zab:=zwb M6
 replace zak:=zwg M6 zak zaU
 replace H:=zHw M6 H zaF
 replace HES:=zwr M6 HES zaF
 replace EW:=zwe M6 EW zbm
 go_wp2
 have z0:=zaq (P:=Tryz.prog) 44 zab.o zaS (by kernel_rfl)
 refine bodyPost_ret (by simp [results,Tryz.results11,asAddr,z0]; rfl) rfl ?_
 have r1:=(H.o.widen (B:=fun k=>A k∨w.heap.size<=k) (fun k _ h=>(HIN2.o k h).2)).mc
 have r2:=HES.o.widen (B:=fun k=>A k∨w.heap.size<=k) (fun k _ h=>(HIN2.o k h).2)
 rw [<- HM2.o] at r1
 exact ⟨_,rfl,EW.o,(r1.and r2).imp fun w' h=>⟨_,_,(by rw [hpe.o,<- HM2.o]),fun _=>⟨HL.o,h.1,h.2⟩,fun h0=>absurd hpe.o h0⟩⟩

open Go.RowKit Go.Mk

theorem Tryz.infoStep:(Tryz.prog.info? 49).map (fun i=>(i.zero,i.size,i.bytes))=some (some (.agg #[.int .i64 0,.int .i64 0]),2,16):=by kernel_rfl

def zeF (n:Nat):List (Int×Int):=(4,0)::(List.range n).map (fun (k:Nat)=>((1:Int),(k:Int)))
theorem ziO (k:Nat):zeF (k+1)=zeF k++[(1,(k:Int))]:=by simp [zeF,List.range_succ]
theorem turnsL_len (k:Nat):(zeF k).length=k+1:=by simp [zeF]
theorem play_turns (m:Mc):∀ k,zcu m (zeF k)=zeE m k
 | 0=>rfl
 | k+1=>by rw [ziO,playM_snoc,play_turns m k,zfe]
theorem znM (m:Mc):zcu m (zeF m.clients.length++[(2,0)])=roundM m:=by
 have e:(za6 m).clients=m.clients:=by
  unfold za6
  split
  ·rfl
  ·split <;> rfl
 rw [playM_snoc,play_turns,round_all,e]

theorem zlq (n:Nat) (hn:n<=1000) (w:World):zaT Tryz.prog 28 #[I n] w (fun r w'=>zax w' r (zeF n++[(2,0)])):=by
 unfold zaT;obtain ⟨i0,hi,hz0,hz1,hz2⟩:=info_parts Tryz.infoStep;go_enter Tryz.func28,Tryz.ntmps28
 go_wp2_with fail
 go_loopw [3,8] (fun v i wr=>∃ (k:Nat),k<=n/\i=I k/\wr.ownsRow w.heap.size 49 2 v (k+1) (zaB (zeF k))/\Ext w wr) (fun _ i _=>n - (intOf i).toNat)
 case atStart=>exact ⟨0,Nat.zero_le _,rfl,zdi (zm6 w _) (Nat.le_refl _) rfl (by decide),(Ext.refl w).alloc _⟩
 case round =>
  obtain ⟨k,hk,rfl,ho,he⟩:=hrel;by_cases hlt:k < n
  ·have b3:(k:Int) < (n:Int):=by omega
   go_wp2_with (at_builtin; refine zbG ?_)
   unfold Hid;refine zaA _ rfl (.tmp 11) (.tmp 14) 23 rfl w.heap.size 49 i0 (.agg #[.int .i64 0,.int .i64 0]) 2 16 zpN hi hz0 hz1 hz2 rfl (by decide) _ (k+1) (zaB (zeF k)) rfl (ho.alloc _) _ rfl 1 [I 1,I k] (Row.of_owns (zdi (zm6 wr _) (Nat.le_refl _) rfl (by decide))) (zbC rfl) (by omega) (by decide) (by have z:=he.size; simp; omega) ?_;intro v' w3 ho3 hg3;have he3:Ext w w3:=(he.alloc _).grown hg3 (fun j hj=>(ho.lt j hj).1);clear hg3 ho he;go_wp2
   go_roundw
   case rel=>exact ⟨k+1,by omega,by go_num,by rw [ziO,zbl]; exact ho3,he3⟩
   case measure=>simp [intOf]; omega
  ·obtain rfl:k=n:=by omega
   have b3:¬ (k:Int) < (k:Int):=by omega
   go_wp2_with (at_builtin; refine zbG ?_)
   unfold Hid;refine zaA _ rfl (.tmp 17) (.tmp 19) 23 rfl w.heap.size 49 i0 (.agg #[.int .i64 0,.int .i64 0]) 2 16 zpN hi hz0 hz1 hz2 rfl (by decide) _ (k+1) (zaB (zeF k)) rfl (ho.alloc _) _ rfl 1 [I 2,I 0] (Row.of_owns (zdi (zm6 wr _) (Nat.le_refl _) rfl (by decide))) (zbC rfl) (by omega) (by decide) (by have z:=he.size; simp; omega) ?_;intro v' w3 ho3 hg3;have he3:Ext w w3:=(he.alloc _).grown hg3 (fun j hj=>(ho.lt j hj).1);clear hg3 ho he;go_wp2
   refine bodyPost_ret (by simp [results,Tryz.results28]; rfl) rfl ?_;refine ⟨_,rfl,he3,zaC (base:=w.heap.size) (e:=49) (n:=k+1+1) ?_⟩;rw [zbl];exact ho3

theorem zhT (hEach:zjV) {l:List (List Cl)} {m m2:Mc} (hm2:roundM m=m2) {c u a p box plan cl sv:Value} {w:World} {E Z:Nat->Prop} (h:RdM E w m c u a p box plan cl) (hgz:GzM l m) (hst:zax w sv (zeF m.clients.length++[(2,0)])) (hz:∀ k,(E k∨w.heap.size<=k)->Z k) :
  Calls Tryz.prog 23 #[.agg (zaH m c u a p box plan cl).toArray,sv] w fun e w9=>∃ (c u a p box plan cl es:Value),e=.returned (.tuple #[.agg (zaH m2 c u a p box plan cl).toArray,es])/\Ext w w9/\RdM Z w9 m2 c u a p box plan cl :=
 (hEach l m _ _ _ _ _ _ _ sv _ w E h hgz hst (by have:=(zl7 hgz).clients; rw [List.length_append,turnsL_len,List.length_singleton]; omega)).to fun r w9 e9 hr=>by
  obtain ⟨cs,es,rfl,hcs,-⟩:=zoG hr
  rw [znM,hm2] at hcs
  obtain ⟨_,_,_,_,_,_,_,rfl,hm⟩:=zbX hcs
  exact ⟨_,_,_,_,_,_,_,es,rfl,e9,hm.widen fun k _ h=>hz k h⟩

theorem zq3 (hEach:zjV):zhc:=fun l m c u a p box plan cl w A h hgz=>by
 unfold zaK
 have HEA:=zhd hEach
 have GZ:=zhd hgz
 have HLC:Hid (m.clients.length<=1000):=(zl7 hgz).clients
 obtain ⟨m2,HM2⟩:∃ x,Hid (roundM m=x):=⟨_,rfl⟩
 rw [HM2.o]
 obtain ⟨ca,cc,ua,uc,aa,ac,pa,pc,xa,xc,la,lc,ka,kc,rfl,rfl,rfl,rfl,rfl,rfl,rfl⟩:=h.slices
 obtain ⟨E0,HE0⟩:∃ E:Nat->Prop,Hid (∀ k,E k↔(A k/\k < w.heap.size)):=⟨_,fun _=>Iff.rfl⟩
 have H:=zhd (h.widen (B:=E0) (fun k hk h=>(HE0.o k).2 ⟨h,hk⟩))
 clear h hgz hEach
 have EW:=zhd (Ext.refl w)
 go_enter Tryz.func14,Tryz.ntmps14
 go_wp2_with (with_reducible refine zT ?_)
 refine zaj rfl 44 (.tmp 0) rfl #[.slice ca m.store.cells.length cc,.slice ua m.store.undo.length uc,.slice aa m.store.answers.length ac,.slice pa m.store.past.length pc,I m.server.gen,.slice xa m.server.box.length xc,.bool m.server.busy,I m.server.now.client,I m.server.now.token,I m.server.now.call.kind,I m.server.now.call.name,I m.server.now.call.other,I m.server.now.call.n,.slice la m.server.plan.length lc,I m.server.says.err,I m.server.says.n,.bool m.up,I m.pause,I m.falls,.slice ka m.clients.length kc] rfl (fun b0 w1_ M1=>?_)
 have zab:=zmb M1
 replace H:=zhd (H.o.ext M1.o.ext)
 replace EW:=zet EW M1
 have zaF:Hid (¬ E0 b0):=fun h=>by have q:=((HE0.o _).1 h).2; have q1:=M1.o.at_; omega
 have zbm:Hid (w.heap.size<=b0):=by unfold Hid; have q1:=M1.o.at_; omega
 go_wp2_with (with_reducible refine zT ?_)
 refine zae rfl 44 zM (by kernel_rfl) (fun b1 w2_ M2=>?_)
 have zaw:=zld zab M2
 replace zab:=zmo M2 zab
 have zad:=zmb M2
 replace H:=zhd (H.o.ext M2.o.ext)
 replace EW:=zet EW M2
 have zaZ:Hid (w.heap.size<=b1):=by unfold Hid; have q1:=zaw.o; have q2:=zbm.o; omega
 have HZ:Hid (∀ k,E0 k->k < w.heap.size/\(A k∨w.heap.size<=k)/\k≠b1):=fun k h=>⟨((HE0.o k).1 h).2,.inl ((HE0.o k).1 h).1,by have q:=((HE0.o k).1 h).2; have q1:=zaZ.o; omega⟩
 have SK:Hid (b1 < w2_.heap.size):=(zlt zad)
 go_upto_region 1 with fail
 go_frame
 go_cut [3] (fun p3 wc=>∃ (b2:Nat) (c u a p box plan cl:Value),p3=.pointer (some ⟨b2,0,none⟩)/\w2_.heap.size<=b2/\wc.heap[b2]?=some (.cells (zaH m2 c u a p box plan cl).toArray 44 (0,0))/\Ext w2_ wc/\RdM (fun k=>(A k∨w.heap.size<=k)/\k≠b1) wc m2 c u a p box plan cl)
 case first =>
  clear zad
  replace EW:Hid (Ext w2_ w2_):=Ext.refl _
  go_wp2_with fail
  refine zbk (S:=fun w'=>w'.heap[b0]?=some (.cells #[.slice ca m.store.cells.length cc,.slice ua m.store.undo.length uc,.slice aa m.store.answers.length ac,.slice pa m.store.past.length pc,I m.server.gen,.slice xa m.server.box.length xc,.bool m.server.busy,I m.server.now.client,I m.server.now.token,I m.server.now.call.kind,I m.server.now.call.name,I m.server.now.call.other,I m.server.now.call.n,.slice la m.server.plan.length lc,I m.server.says.err,I m.server.says.n,.bool m.up,I m.pause,I m.falls,.slice ka m.clients.length kc] 44 (0,0))) (by kernel_rfl) (fun wd ed _=>?_)
  replace zab:=zbx zab ed
  replace H:=zhd (H.o.ext ed)
  replace EW:=zhd (EW.o.trans ed)
  have HSS:=zab
  refine zaM 0 rfl (by kernel_rfl) (by kernel_rfl) (by kernel_rfl) (fun _ _ _ _ h=>h) rfl 44 (.tmp 1) rfl b0 rfl (fun w' hS=>hS) zaS (by kernel_rfl) HSS ?_
  refine zaf fun K h=>?_; go_simp; refine h _ ?_; clear h K
  refine zar 1 rfl (by kernel_rfl) (by kernel_rfl) (by kernel_rfl) (fun _ _ _ _ h=>h) rfl HSS.o (fun K hK=>?_); go_simp; refine hK _ ?_; clear hK K
  refine zbv 2 rfl (by kernel_rfl) (by kernel_rfl) (by kernel_rfl) (fun _ _ _ _ h=>h) (.slice ka m.clients.length kc) rfl (fun w' hS=>by have q0:=zaa (i:=19) hS rfl; go_simp) HSS.o ?_
  refine zaf fun K h=>?_; go_simp; refine h _ ?_; clear h K
  refine zar 3 rfl (by kernel_rfl) (by kernel_rfl) (by kernel_rfl) (fun _ _ _ _ h=>h) rfl HSS.o (fun K hK=>?_); go_simp; refine hK _ ?_; clear hK K
  refine zfI 4 9 (by kernel_rfl) ?_ ?_
  ·refine zdz rfl rfl 28 #[I m.clients.length] (by go_simp) ?_
   refine (zlq m.clients.length HLC.o wd).to fun sv wt et hst=>?_
   replace zab:=zbx zab et
   replace H:=zhd (H.o.ext et)
   replace EW:=zhd (EW.o.trans et)
   have HST:=zhd hst
   clear HSS et hst
   refine ⟨_,rfl,zab.o,?_⟩
   have HSS:=zab
   refine zaf fun K h=>?_; go_simp; refine h _ ?_; clear h K
   refine zfI 5 9 (by kernel_rfl) ?_ ?_
   ·refine zdz rfl rfl 23 #[.agg #[.slice ca m.store.cells.length cc,.slice ua m.store.undo.length uc,.slice aa m.store.answers.length ac,.slice pa m.store.past.length pc,I m.server.gen,.slice xa m.server.box.length xc,.bool m.server.busy,I m.server.now.client,I m.server.now.token,I m.server.now.call.kind,I m.server.now.call.name,I m.server.now.call.other,I m.server.now.call.n,.slice la m.server.plan.length lc,I m.server.says.err,I m.server.says.n,.bool m.up,I m.pause,I m.falls,.slice ka m.clients.length kc],sv] (by go_simp) ?_
    refine Calls.mono (zhT (Z:=fun k=>(A k∨w.heap.size<=k)/\k≠b1) HEA.o HM2.o H.o GZ.o HST.o (fun k h=>by
     have q1:=zaZ.o; have q2:=SK.o; have q3:=EW.o.size
     rcases h with h | h
     ·exact (HZ.o k h).2
     ·exact ⟨.inr (by omega),by omega⟩)) fun e w9 ⟨c2,u2,a2,p2,box2,plan2,cl2,es,e1,e9,hm2⟩=>?_
    subst e1
    obtain ⟨ca2,cc2,ua2,uc2,aa2,ac2,pa2,pc2,xa2,xc2,la2,lc2,ka2,kc2,rfl,rfl,rfl,rfl,rfl,rfl,rfl⟩:=hm2.slices
    clear H HST HSS
    have H:=zhd hm2
    clear hm2
    replace zab:=zbx zab e9
    replace EW:=zhd (EW.o.trans e9)
    clear e9
    refine ⟨_,rfl,zab.o,?_⟩
    have HSS:=zab
    refine zaf fun K h=>?_; go_simp; refine h _ ?_; clear h K
    refine zar 6 rfl (by kernel_rfl) (by kernel_rfl) (by kernel_rfl) (fun _ _ _ _ h=>h) rfl HSS.o (fun K hK=>?_); go_simp; refine hK _ ?_; clear hK K
    refine zar 7 rfl (by kernel_rfl) (by kernel_rfl) (by kernel_rfl) (fun _ _ _ _ h=>h) rfl HSS.o (fun K hK=>?_); go_simp; refine hK _ ?_; clear hK K
    refine zar 8 rfl (by kernel_rfl) (by kernel_rfl) (by kernel_rfl) (fun _ _ _ _ h=>h) rfl HSS.o (fun K hK=>?_); go_simp; refine hK _ ?_; clear hK K
    have SZ:Hid (w2_.heap.size<=w9.heap.size):=EW.o.size
    refine zdQ 9 (by kernel_rfl) (zcV rfl rfl 44 zM (by kernel_rfl) (fun b2 w3_ M3=>⟨M3.o.old zab.o,?_⟩))
    have zaU:=zld zab M3
    replace zab:=zmo M3 zab
    have zak:=zmb M3
    replace H:=zhd ((H.o.widen (B:=fun k=>((A k∨w.heap.size<=k)/\k≠b1)/\k≠b2) fun k hk h=>⟨h,by have q2:=M3.o.at_; omega⟩).ext M3.o.ext)
    replace EW:=zet EW M3
    clear HSS
    have HSS:=zab
    refine zaf fun K h=>?_; go_simp; refine h _ ?_; clear h K
    have zbp:Hid (w2_.heap.size<=b2):=by unfold Hid; have q:=SZ.o; have q2:=M3.o.at_; omega
    clear SZ
    refine zaR 10 (by kernel_rfl) rfl rfl 44 (.tmp 3) (.tmp 12) rfl b2 rfl [.slice ca2 m2.store.cells.length cc2,.slice ua2 m2.store.undo.length uc2,.slice aa2 m2.store.answers.length ac2,.slice pa2 m2.store.past.length pc2,I m2.server.gen,.slice xa2 m2.server.box.length xc2,.bool m2.server.busy,I m2.server.now.client,I m2.server.now.token,I m2.server.now.call.kind,I m2.server.now.call.name,I m2.server.now.call.other,I m2.server.now.call.n,.slice la2 m2.server.plan.length lc2,I m2.server.says.err,I m2.server.says.n,.bool m2.up,I m2.pause,I m2.falls,.slice ka2 m2.clients.length kc2] rfl zak rfl (by kernel_rfl) rfl (fun wz MZ=>⟨MZ.o.old zab.o (Nat.ne_of_lt zaU.o),?_⟩)
    clear HSS
    have HSS:=zhd (MZ.o.old zab.o (Nat.ne_of_lt zaU.o))
    refine zaf fun K h=>?_; go_simp; refine h _ ?_; clear h K
    refine zaE 11 (by kernel_rfl) rfl rfl _ rfl HSS.o ?_
    refine zaf fun K h=>?_; go_simp; refine h _ ?_; clear h K
    refine wpAnyH_done (by kernel_rfl) ?_ _
    clear HSS
    go_wp2_with fail
    go_meet
    case rel=>exact ⟨b2,_,_,_,_,_,_,_,rfl,zbp.o,MZ.o.block,MZ.o.ext EW.o zbp.o,(MZ.o.rdM H.o (fun h=>h.2 rfl)).widen fun k _ h=>h.1⟩
   ·have SZ:Hid (w2_.heap.size<=wt.heap.size):=EW.o.size
    refine zcV rfl rfl 44 zM (by kernel_rfl) (fun b2 w3_ M3=>⟨M3.o.old zab.o,?_⟩)
    have zaU:=zld zab M3
    replace zab:=zmo M3 zab
    have zak:=zmb M3
    replace H:=zhd (H.o.ext M3.o.ext)
    replace HST:=zhd (HST.o.ext M3.o.ext)
    replace EW:=zet EW M3
    clear HSS
    have HSS:=zab
    refine zaf fun K h=>?_; go_simp; refine h _ ?_; clear h K
    have zbp:Hid (w2_.heap.size<=b2):=by unfold Hid; have q:=SZ.o; have q2:=M3.o.at_; omega
    clear SZ
    refine zc5 5 (by kernel_rfl) rfl rfl 23 #[.agg #[.slice ca m.store.cells.length cc,.slice ua m.store.undo.length uc,.slice aa m.store.answers.length ac,.slice pa m.store.past.length pc,I m.server.gen,.slice xa m.server.box.length xc,.bool m.server.busy,I m.server.now.client,I m.server.now.token,I m.server.now.call.kind,I m.server.now.call.name,I m.server.now.call.other,I m.server.now.call.n,.slice la m.server.plan.length lc,I m.server.says.err,I m.server.says.n,.bool m.up,I m.pause,I m.falls,.slice ka m.clients.length kc],sv] (by go_simp) ?_
    have SC:Hid (b2 < w3_.heap.size):=(zlt zak)
    refine Calls.mono (zhT (Z:=fun k=>((A k∨w.heap.size<=k)/\k≠b1)/\k≠b2) HEA.o HM2.o H.o GZ.o HST.o (fun k h=>by
     have q1:=zaZ.o; have q2:=SK.o; have q3:=EW.o.size; have q4:=SC.o; have q5:=zbp.o
     rcases h with h | h
     ·exact ⟨(HZ.o k h).2,by have q:=(HZ.o k h).1; have q1:=zaZ.o; have q2:=SK.o; have q3:=EW.o.size; have q4:=SC.o; have q5:=zbp.o; omega⟩
     ·exact ⟨⟨.inr (by omega),by omega⟩,by omega⟩)) fun e w9 ⟨c2,u2,a2,p2,box2,plan2,cl2,es,e1,e9,hm2⟩=>?_
    subst e1
    obtain ⟨ca2,cc2,ua2,uc2,aa2,ac2,pa2,pc2,xa2,xc2,la2,lc2,ka2,kc2,rfl,rfl,rfl,rfl,rfl,rfl,rfl⟩:=hm2.slices
    clear H HST HSS
    have H:=zhd hm2
    clear hm2
    replace zab:=zbx zab e9
    replace zak:=zbx zak e9
    replace EW:=zhd (EW.o.trans e9)
    clear e9
    refine ⟨_,rfl,zab.o,?_⟩
    have HSS:=zab
    refine zaf fun K h=>?_; go_simp; refine h _ ?_; clear h K
    refine zar 6 rfl (by kernel_rfl) (by kernel_rfl) (by kernel_rfl) (fun _ _ _ _ h=>h) rfl HSS.o (fun K hK=>?_); go_simp; refine hK _ ?_; clear hK K
    refine zar 7 rfl (by kernel_rfl) (by kernel_rfl) (by kernel_rfl) (fun _ _ _ _ h=>h) rfl HSS.o (fun K hK=>?_); go_simp; refine hK _ ?_; clear hK K
    refine zar 8 rfl (by kernel_rfl) (by kernel_rfl) (by kernel_rfl) (fun _ _ _ _ h=>h) rfl HSS.o (fun K hK=>?_); go_simp; refine hK _ ?_; clear hK K
    refine zaR 10 (by kernel_rfl) rfl rfl 44 (.tmp 3) (.tmp 12) rfl b2 rfl [.slice ca2 m2.store.cells.length cc2,.slice ua2 m2.store.undo.length uc2,.slice aa2 m2.store.answers.length ac2,.slice pa2 m2.store.past.length pc2,I m2.server.gen,.slice xa2 m2.server.box.length xc2,.bool m2.server.busy,I m2.server.now.client,I m2.server.now.token,I m2.server.now.call.kind,I m2.server.now.call.name,I m2.server.now.call.other,I m2.server.now.call.n,.slice la2 m2.server.plan.length lc2,I m2.server.says.err,I m2.server.says.n,.bool m2.up,I m2.pause,I m2.falls,.slice ka2 m2.clients.length kc2] rfl zak rfl (by kernel_rfl) rfl (fun wz MZ=>⟨MZ.o.old zab.o (Nat.ne_of_lt zaU.o),?_⟩)
    clear HSS
    have HSS:=zhd (MZ.o.old zab.o (Nat.ne_of_lt zaU.o))
    refine zaf fun K h=>?_; go_simp; refine h _ ?_; clear h K
    refine zaE 11 (by kernel_rfl) rfl rfl _ rfl HSS.o ?_
    refine zaf fun K h=>?_; go_simp; refine h _ ?_; clear h K
    refine wpAnyH_done (by kernel_rfl) ?_ _
    clear HSS
    go_wp2_with fail
    go_meet
    case rel=>exact ⟨b2,_,_,_,_,_,_,_,rfl,zbp.o,MZ.o.block,MZ.o.ext EW.o zbp.o,(MZ.o.rdM H.o (fun h=>h.2 rfl)).widen fun k _ h=>h.1⟩
  ·have SZ:Hid (w2_.heap.size<=wd.heap.size):=EW.o.size
   refine zcV rfl rfl 44 zM (by kernel_rfl) (fun b2 w3_ M3=>⟨M3.o.old zab.o,?_⟩)
   have zaU:=zld zab M3
   replace zab:=zmo M3 zab
   have zak:=zmb M3
   replace H:=zhd (H.o.ext M3.o.ext)
   replace EW:=zet EW M3
   clear HSS
   have HSS:=zab
   refine zaf fun K h=>?_; go_simp; refine h _ ?_; clear h K
   have zbp:Hid (w2_.heap.size<=b2):=by unfold Hid; have q:=SZ.o; have q2:=M3.o.at_; omega
   clear SZ
   refine zc5 4 (by kernel_rfl) rfl rfl 28 #[I m.clients.length] (by go_simp) ?_
   refine (zlq m.clients.length HLC.o w3_).to fun sv wt et hst=>?_
   replace zab:=zbx zab et
   replace zak:=zbx zak et
   replace H:=zhd (H.o.ext et)
   replace EW:=zhd (EW.o.trans et)
   have HST:=zhd hst
   clear HSS et hst
   refine ⟨_,rfl,zab.o,?_⟩
   have HSS:=zab
   refine zaf fun K h=>?_; go_simp; refine h _ ?_; clear h K
   refine zc5 5 (by kernel_rfl) rfl rfl 23 #[.agg #[.slice ca m.store.cells.length cc,.slice ua m.store.undo.length uc,.slice aa m.store.answers.length ac,.slice pa m.store.past.length pc,I m.server.gen,.slice xa m.server.box.length xc,.bool m.server.busy,I m.server.now.client,I m.server.now.token,I m.server.now.call.kind,I m.server.now.call.name,I m.server.now.call.other,I m.server.now.call.n,.slice la m.server.plan.length lc,I m.server.says.err,I m.server.says.n,.bool m.up,I m.pause,I m.falls,.slice ka m.clients.length kc],sv] (by go_simp) ?_
   have SC:Hid (b2 < wt.heap.size):=(zlt zak)
   refine Calls.mono (zhT (Z:=fun k=>((A k∨w.heap.size<=k)/\k≠b1)/\k≠b2) HEA.o HM2.o H.o GZ.o HST.o (fun k h=>by
    have q1:=zaZ.o; have q2:=SK.o; have q3:=EW.o.size; have q4:=SC.o; have q5:=zbp.o
    rcases h with h | h
    ·exact ⟨(HZ.o k h).2,by have q:=(HZ.o k h).1; have q1:=zaZ.o; have q2:=SK.o; have q3:=EW.o.size; have q4:=SC.o; have q5:=zbp.o; omega⟩
    ·exact ⟨⟨.inr (by omega),by omega⟩,by omega⟩)) fun e w9 ⟨c2,u2,a2,p2,box2,plan2,cl2,es,e1,e9,hm2⟩=>?_
   subst e1
   obtain ⟨ca2,cc2,ua2,uc2,aa2,ac2,pa2,pc2,xa2,xc2,la2,lc2,ka2,kc2,rfl,rfl,rfl,rfl,rfl,rfl,rfl⟩:=hm2.slices
   clear H HST HSS
   have H:=zhd hm2
   clear hm2
   replace zab:=zbx zab e9
   replace zak:=zbx zak e9
   replace EW:=zhd (EW.o.trans e9)
   clear e9
   refine ⟨_,rfl,zab.o,?_⟩
   have HSS:=zab
   refine zaf fun K h=>?_; go_simp; refine h _ ?_; clear h K
   refine zar 6 rfl (by kernel_rfl) (by kernel_rfl) (by kernel_rfl) (fun _ _ _ _ h=>h) rfl HSS.o (fun K hK=>?_); go_simp; refine hK _ ?_; clear hK K
   refine zar 7 rfl (by kernel_rfl) (by kernel_rfl) (by kernel_rfl) (fun _ _ _ _ h=>h) rfl HSS.o (fun K hK=>?_); go_simp; refine hK _ ?_; clear hK K
   refine zar 8 rfl (by kernel_rfl) (by kernel_rfl) (by kernel_rfl) (fun _ _ _ _ h=>h) rfl HSS.o (fun K hK=>?_); go_simp; refine hK _ ?_; clear hK K
   refine zaR 10 (by kernel_rfl) rfl rfl 44 (.tmp 3) (.tmp 12) rfl b2 rfl [.slice ca2 m2.store.cells.length cc2,.slice ua2 m2.store.undo.length uc2,.slice aa2 m2.store.answers.length ac2,.slice pa2 m2.store.past.length pc2,I m2.server.gen,.slice xa2 m2.server.box.length xc2,.bool m2.server.busy,I m2.server.now.client,I m2.server.now.token,I m2.server.now.call.kind,I m2.server.now.call.name,I m2.server.now.call.other,I m2.server.now.call.n,.slice la2 m2.server.plan.length lc2,I m2.server.says.err,I m2.server.says.n,.bool m2.up,I m2.pause,I m2.falls,.slice ka2 m2.clients.length kc2] rfl zak rfl (by kernel_rfl) rfl (fun wz MZ=>⟨MZ.o.old zab.o (Nat.ne_of_lt zaU.o),?_⟩)
   clear HSS
   have HSS:=zhd (MZ.o.old zab.o (Nat.ne_of_lt zaU.o))
   refine zaf fun K h=>?_; go_simp; refine h _ ?_; clear h K
   refine zaE 11 (by kernel_rfl) rfl rfl _ rfl HSS.o ?_
   refine zaf fun K h=>?_; go_simp; refine h _ ?_; clear h K
   refine wpAnyH_done (by kernel_rfl) ?_ _
   clear HSS
   go_wp2_with fail
   go_meet
   case rel=>exact ⟨b2,_,_,_,_,_,_,_,rfl,zbp.o,MZ.o.block,MZ.o.ext EW.o zbp.o,(MZ.o.rdM H.o (fun h=>h.2 rfl)).widen fun k _ h=>h.1⟩
 case rest =>
  rename World=>wc
  obtain ⟨b2,c2,u2,a2,p2,box2,plan2,cl2,rfl,hb2,hblk,hex,hm⟩:=hcut
  obtain ⟨ca2,cc2,ua2,uc2,aa2,ac2,pa2,pc2,xa2,xc2,la2,lc2,ka2,kc2,rfl,rfl,rfl,rfl,rfl,rfl,rfl⟩:=hm.slices
  clear H zab HE0 HZ
  have zaI:Hid (b1 < b2):=by unfold Hid; have q:=SK.o; omega
  have H:=zhd hm
  have zat:Hid (¬ ((A b1∨w.heap.size<=b1)/\b1≠b1)):=fun h=>h.2 rfl
  have zak:Hid (wc.heap[b2]?=some (.cells #[.slice ca2 m2.store.cells.length cc2,.slice ua2 m2.store.undo.length uc2,.slice aa2 m2.store.answers.length ac2,.slice pa2 m2.store.past.length pc2,I m2.server.gen,.slice xa2 m2.server.box.length xc2,.bool m2.server.busy,I m2.server.now.client,I m2.server.now.token,I m2.server.now.call.kind,I m2.server.now.call.name,I m2.server.now.call.other,I m2.server.now.call.n,.slice la2 m2.server.plan.length lc2,I m2.server.says.err,I m2.server.says.n,.bool m2.up,I m2.pause,I m2.falls,.slice ka2 m2.clients.length kc2] 44 (0,0))):=hblk
  replace zad:=zbx zad hex
  replace EW:=zhd (EW.o.trans hex)
  clear hex hblk hm hb2
  go_wp2_with (with_reducible refine zT ?_)
  refine zah rfl 44 (.tmp 3) rfl b2 rfl zak zaS zaG (fun vf H_vf=>?_)
  go_wp2_with (with_reducible refine zT ?_)
  refine zac rfl 44 (.tmp 2) (.tmp 14) rfl b1 rfl _ (zcv H_vf) zad rfl zaG rfl (fun w61_ M61=>?_)
  replace zad:=zwb M61
  replace zak:=zwg M61 zak zaI
  replace H:=zHw M61 H zat
  replace EW:=zwe M61 EW zaZ
  go_wp2
  have z0:=zaq (P:=Tryz.prog) 44 zad.o zaS (by kernel_rfl)
  refine bodyPost_ret (by simp [results,Tryz.results14,asAddr,z0,Act.put]; rfl) rfl ?_
  exact ⟨_,rfl,EW.o,(H.o.widen (B:=fun k=>A k∨w.heap.size<=k) (fun k _ h=>h.1)).mc.imp fun w' h=>⟨_,rfl,h⟩⟩

open Go.RowKit Go.Mk

structure GoodC (c:Cn):Prop where
 at0:0<=c.at_
 at1:c.at_<=900
 calls:c.calls.length<=8/\∀ x ∈ c.calls,wrongCl x=0
 got:c.got.length<=900
 box:c.box.length<=900
 bytes:∀ b ∈ c.box,b.length<=140737488355328

def zty:Prop:=∀ (c:Cn) (calls box got:Value) (me gen:Int) (up:Bool) (w:World) (A:Nat->Prop),Rd A (fun w=>zas 4 zdw w calls c.calls) w->Rd A (fun w=>zas 1 zcc w box c.box) w->Rd A (fun w=>zas 2 zd6 w got c.got) w->GoodC c->0<=me->me<=2 ->
 zaK Tryz.prog 68 #[.agg #[calls,I c.at_,.bool c.sent,I c.gen,box,got],I me,I gen,.bool up] w A (fun r w'=>zlJ zcC (zcy c me gen up).1 (zcy c me gen up).2.1 (zcy c me gen up).2.2 r w')

theorem zkk {l:List (List Cl)} (hl:za8 l) {m:Mc} {ks:List Nat} {bz:Option Nat} (h:MInv l m ks bz) {k:Nat} (hs:SizeM m k) (hk:k<=800):∀ c ∈ m.clients,GoodC c/\c.box.length<=1:=fun c hc=>by
 obtain ⟨i,hi⟩:=List.mem_iff_getElem?.1 hc
 have hci:=h.clients i c hi
 have h6:=hs.each c hc
 have hat:=hci.at_
 have hb:c.box.length<=1/\∀ b ∈ c.box,b.length<=140737488355328:=by
  cases hci.phase with
  | rest _ _ _ e _=>rw [e]; exact ⟨Nat.zero_le _,fun b hb=>by cases hb⟩
  | wait _ _ _ _ e _=>rw [e]; exact ⟨Nat.zero_le _,fun b hb=>by cases hb⟩
  | work _ _ _ _ e _ _=>rw [e]; exact ⟨Nat.zero_le _,fun b hb=>by cases hb⟩
  | lost _ _ _ e _ _=>rw [e]; exact ⟨Nat.zero_le _,fun b hb=>by cases hb⟩
  | hear _ _ _ _ e =>
   rw [e]
   refine ⟨Nat.le_refl _,fun b hb=>?_⟩
   rw [List.mem_singleton.1 hb]
   exact Nat.le_trans (Nat.le_of_eq rfl) (by decide:(8:Nat)<=140737488355328)
 refine ⟨⟨by omega,by omega,?_,by omega,by omega,hb.2⟩,hb.1⟩
 rw [hci.calls,List.getD_eq_getElem?_getD]
 cases e:l[i]? with
 | none=>exact ⟨Nat.zero_le _,fun x hx=>by cases hx⟩
 | some y=>exact hl.2 y (List.mem_of_getElem? e)
open Go.RowKit Go.Mk

end Go.Proofs.YtdmipnnfoolelafGreat

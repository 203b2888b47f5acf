/- zbb of the proof, merged: UC UA. -/
import Derived.Test.YtdmipnnfoolelagGreatDoorKTA
import Derived.Test.YtdmipnnfoolelagGreatDoorKTS
import Derived.Test.YtdmipnnfoolelagGreatDoorKTE
set_option maxHeartbeats 4000000
set_option maxRecDepth 100000

namespace Go.Proofs.YtdmipnnfoolelagGreatDoor
open Go.RowKit Go.Mk

def zhI (l:List Int) (n:Nat):List Int:=l++List.replicate (n - l.length) 0
theorem zmp:∀ (L:List Value) (x:Value) (R:List Value),(L++x::R).drop (L.length+1)=R
 | [],_,_=>rfl
 | _::L,x,R=>zmp L x R
theorem zqb {l:List Int} {n:Nat} (h:l.length < n) (x:Int):((zhI l n).map I).take l.length++[I x]++((zhI l n).map I).drop (l.length+1)=(zhI (l++[x]) n).map I:=by
 unfold zhI
 have e:n - l.length=n - (l.length+1)+1:=by omega
 rw [e,List.replicate_succ,List.map_append,List.map_cons]
 have h1:(l.map I++I 0::(List.replicate (n - (l.length+1)) 0).map I).take l.length=l.map I:=by
  rw [show l.length=(l.map I).length by simp,List.take_left]
 have h2:(l.map I++I 0::(List.replicate (n - (l.length+1)) 0).map I).drop (l.length+1)=(List.replicate (n - (l.length+1)) 0).map I:=by
  have:=zmp (l.map I) (I 0) ((List.replicate (n - (l.length+1)) 0).map I)
  rwa [List.length_map] at this
 rw [h1,h2]
 simp
theorem zqG {l:List Int} {n:Nat} (h:l.length=n):zhI l n=l:=by simp [zhI,h]
theorem zgq:∀ (s:List (Int×Int)) (m:Mc),(zdV m s).length=s.length
 | [],_=>rfl
 | p::s,m=>by
  show ((doM m p.1 p.2).2::zdV (doM m p.1 p.2).1 s).length=_
  rw [List.length_cons,zgq s,List.length_cons]
theorem zvk (n:Nat):(madeCells (Value.int IntKind.i64 0).cells (n * 1)).toList=(zhI [] n).map I:=by
 refine (List.eq_replicate_iff.2 ⟨?_,?_⟩:_=List.replicate n (I 0)).trans (by simp [zhI])
 ·rw [Array.length_toList,size_madeCells,Nat.mul_one]
 ·intro b hb
  simp only [madeCells,Array.toList_map,List.mem_map] at hb
  obtain ⟨i,_,rfl⟩:=hb
  have:i % (Value.int IntKind.i64 0).cells.size=0:=Nat.mod_one i
  rw [this]
  rfl
theorem zo7 (A:Nat->Prop) (w:World):RdM A w zeroMc (.slice none 0 0) (.slice none 0 0) (.slice none 0 0) (.slice none 0 0) (.slice none 0 0) (.slice none 0 0) (.slice none 0 0) :=
 ⟨Rd.all fun w=>zhy w,Rd.all fun w=>zbr w,Rd.all fun w=>zaj.nil w,Rd.all fun w=>zaj.nil w,Rd.all fun w=>zaj.nil w,Rd.all fun w=>zbr w,Rd.all fun w=>zaj.nil w⟩

theorem zmR {l:List (List Cl)}:∀ (s:List (Int×Int)) {m:Mc},GzM l m->GzM l (zcS m s)
 | [],_,h=>h
 | p::s,m,h=>zmR s (m:=(doM m p.1 p.2).1) (zr9 h p.1 p.2)

def zrD (m:Mc) (steps:List (Int×Int)) (r:Value) (w:World):Prop:=∃ (cs:List Value) (es:Value),r=.tuple #[.agg cs.toArray,es]/\zdi w cs (zcS m steps)/\zc2 w es (zdV m steps)
def zi0:Prop:=∀ (l:List (List Cl)) (m:Mc) (c u a p box plan cl sv:Value) (steps:List (Int×Int)) (w:World) (A:Nat->Prop),RdM A w m c u a p box plan cl->GzM l m->zar w sv steps->steps.length<=2000 ->
 za3 Tryz.prog 23 #[.agg (zaM m c u a p box plan cl).toArray,sv] w A (zrD m steps)
theorem zps {m:Mc} {steps:List (Int×Int)} {r:Value} {A:Nat->Prop} {w:World} (h:Rd A (zrD m steps r) w):∃ (cs:List Value) (es:Value),r=.tuple #[.agg cs.toArray,es]/\Rd A (fun w=>zdi w cs (zcS m steps)) w/\Rd A (fun w=>zc2 w es (zdV m steps)) w:=by
 obtain ⟨cs,es,e1,h1,h2⟩:=h.o
 have key:∀ w',zrD m steps r w'->zdi w' cs (zcS m steps)/\zc2 w' es (zdV m steps):=fun w' hw=>by
  obtain ⟨cs',es',e1',h3,h4⟩:=hw
  rw [e1] at e1'
  simp only [Value.tuple.injEq,Array.mk.injEq,List.cons.injEq,Value.agg.injEq,and_true] at e1'
  obtain ⟨q1,q2⟩:=e1'
  have q1:cs=cs':=by simpa using q1
  subst q1 q2
  exact ⟨h3,h4⟩
 exact ⟨cs,es,e1,h.imp fun w' hw=>(key w' hw).1,h.imp fun w' hw=>(key w' hw).2⟩

theorem zs5 (hDo:zuW):zi0:=fun l m c u a p box plan cl sv steps w A h hgz hs hlen=>by
 unfold za3
 obtain ⟨sa0,scap,rfl,s1,s2,s3⟩:=hs.form
 unfold maxLen at s2
 have HS3:=zhd s3
 have HDO:=zhd hDo
 have GZ:=zhd hgz
 obtain ⟨ca,cc,ua,uc,aa,ac,pa,pc,xa,xc,la,lc,ka,kc,rfl,rfl,rfl,rfl,rfl,rfl,rfl⟩:=h.slices
 obtain ⟨E,HE0⟩:∃ E:Nat->Prop,Hid (∀ k,E k↔(A k/\k < w.heap.size)):=⟨_,fun _=>Iff.rfl⟩
 have H:=zhd (h.widen (B:=E) (fun k hk h=>(HE0.o k).2 ⟨h,hk⟩))
 clear h hgz hs s3 hDo
 obtain ⟨j0,hj,hy0,hy1,hy2⟩:=info_parts Tryz.infoErrno
 have EW:=zhd (Ext.refl w)
 go_enter Tryz.func23,Tryz.ntmps23
 go_wp2_with (with_reducible refine zT ?_)
 refine zam rfl 43 (.tmp 0) rfl #[.slice ca m.store.cells.length cc,.slice ua m.store.undo.length uc,.slice aa m.store.answers.length ac,.slice pa m.store.past.length pc,I m.server.gen,.slice xa m.server.box.length xc,.bool m.server.busy,I m.server.now.client,I m.server.now.token,I m.server.now.call.kind,I m.server.now.call.name,I m.server.now.call.other,I m.server.now.call.n,.slice la m.server.plan.length lc,I m.server.says.err,I m.server.says.n,.bool m.up,I m.pause,I m.falls,.slice ka m.clients.length kc] rfl (fun b0 w1_ M1=>?_)
 have zab:=zmb M1
 replace H:=zhd (H.o.ext M1.o.ext)
 replace EW:=zet EW M1
 have zbc:Hid (¬ E b0):=fun h=>by have q:=((HE0.o _).1 h).2; have q1:=M1.o.at_; omega
 have zcO:Hid (w.heap.size<=b0):=by unfold Hid; have q1:=M1.o.at_; omega
 go_wp2_with (with_reducible refine zT ?_)
 refine zac rfl 43 zM (by kernel_rfl) (fun b1 w2_ M2=>?_)
 have zaQ:=zld zab M2
 replace zab:=zmo M2 zab
 have zad:=zmb M2
 replace H:=zhd (H.o.ext M2.o.ext)
 replace EW:=zet EW M2
 have zaB:Hid (¬ E b1):=fun h=>by have q:=((HE0.o _).1 h).2; have q1:=zaQ.o; have q2:=zcO.o; omega
 have za9:Hid (w.heap.size<=b1):=by unfold Hid; have q1:=zaQ.o; have q2:=zcO.o; omega
 have HIN:Hid (∀ j,E j->j < w2_.heap.size/\(A j∨w.heap.size<=j)):=fun j h=>⟨Nat.lt_of_lt_of_le ((HE0.o _).1 h).2 EW.o.size,.inl ((HE0.o _).1 h).1⟩
 go_wp2_with (at_make; refine wpList_make_full _ rfl _ _ 61 rfl w2_.heap.size 36 j0 (.int .i64 0) 1 zvA hj hy0 hy1 .i64 .i64 _ _ steps.length rfl rfl rfl rfl (by rw [hy2]; omega) (by unfold maxLen; omega) (Nat.le_refl _) ?_; intro w5 hown hgrow)
 have e5:Ext w2_ w5:=(Ext.refl w2_).grown hgrow (fun k hk=>by cases hk)
 rw [zvk] at hown
 have hbm:b1 < w2_.heap.size:=(zlt zad)
 obtain ⟨g,HGG⟩:∃ g,Hid (w2_.heap.size=g):=⟨_,rfl⟩
 rw [HGG.o] at hown hbm
 have OE:=zhd (zaL hown (show b1+1<=g from hbm))
 simp only [show w2_.heap.size=g from HGG.o]
 have N_g:Hid (¬ E g):=fun h=>by have q:=(HIN.o _ h).1; have q2:=HGG.o; omega
 have zud:Hid (b1 < g):=hbm
 have zuj:Hid (b0 < g):=by unfold Hid; have q:=zaQ.o; have q2:=zud.o; omega
 have O_g:Hid (w.heap.size<=g):=by unfold Hid; have q:=za9.o; have q2:=zud.o; omega
 clear hown hgrow hbm HGG
 replace zab:=zbx zab e5
 replace zad:=zbx zad e5
 replace H:=zhd (H.o.ext e5)
 replace EW:=zhd (EW.o.trans e5)
 replace HIN:Hid (∀ j,E j->j < w5.heap.size/\(A j∨w.heap.size<=j)):=fun j h=>⟨Nat.lt_of_lt_of_le (HIN.o j h).1 e5.size,(HIN.o j h).2⟩
 clear e5 HE0
 go_loopw [14] (fun i wr=>∃ (k:Nat) (E:Nat->Prop) (mk:Mc) (c u a p box plan cl:Value),k<=steps.length/\i=I k/\mk=zcS m (steps.take k)/\RdM E wr mk c u a p box plan cl/\(∀ j,E j->j < wr.heap.size/\(A j∨w.heap.size<=j))/\¬ E b0/\¬ E b1/\¬ E g/\wr.heap[b0]?=some (.cells (zaM mk c u a p box plan cl).toArray 43 (0,0))/\wr.heap[b1]?=some (.cells zM 43 (0,0))/\wr.ownsRow (b1+1) 36 1 (.slice (some ⟨g,0,none⟩) steps.length steps.length) steps.length ((zhI (zdV m (steps.take k)) steps.length).map I)/\Ext w wr) (fun i _=>steps.length - (intOf i).toNat)
 case atStart=>exact ⟨0,E,m,_,_,_,_,_,_,_,Nat.zero_le _,rfl,rfl,H.o,HIN.o,zbc.o,zaB.o,N_g.o,zab.o,zad.o,OE.o,EW.o⟩
 case round =>
  obtain ⟨k,E',mk,c',u',a',p',box',plan',cl',hk,rfl,hmk,hm,hE,n0,n1,ng,hb0,hb1,ho,hex⟩:=hrel
  clear zab zad H EW zbc zaB N_g HIN OE
  obtain ⟨ca,cc,ua,uc,aa,ac,pa,pc,xa,xc,la,lc,ka,kc,rfl,rfl,rfl,rfl,rfl,rfl,rfl⟩:=hm.slices
  have HM:=zhd hmk
  have H:=zhd hm
  have HIN:=zhd hE
  have zbc:=zhd n0
  have zaB:=zhd n1
  have N_g:=zhd ng
  have zab:Hid (wr.heap[b0]?=some (.cells #[.slice ca mk.store.cells.length cc,.slice ua mk.store.undo.length uc,.slice aa mk.store.answers.length ac,.slice pa mk.store.past.length pc,I mk.server.gen,.slice xa mk.server.box.length xc,.bool mk.server.busy,I mk.server.now.client,I mk.server.now.token,I mk.server.now.call.kind,I mk.server.now.call.name,I mk.server.now.call.other,I mk.server.now.call.n,.slice la mk.server.plan.length lc,I mk.server.says.err,I mk.server.says.n,.bool mk.up,I mk.pause,I mk.falls,.slice ka mk.clients.length kc] 43 (0,0))):=hb0
  have zad:=zhd hb1
  have OE:=zhd ho
  have EW:=zhd hex
  clear hmk hm hE n0 n1 ng hb0 hb1 ho hex
  generalize hEr:(E':Nat->Prop)=E at *
  clear hEr E'
  have GK:=zhd (zmR (steps.take k) GZ.o)
  rw [<- HM.o] at GK
  by_cases hlt:k < steps.length
  ·have HT:=zhd (zp9 hlt)
   obtain ⟨sb,so,rfl,c0,c1⟩:=HS3.o k hlt
   replace c0:=EW.o.cell c0
   replace c1:=EW.o.cell c1
   generalize steps.getD k (0,0)=pp at *
   obtain ⟨kd,sn⟩:=pp
   simp only [] at c0 c1
   go_wp2_with (with_reducible refine zT ?_)
   clear c0 c1
   have OE0:=OE
   refine zac rfl 108 #[I 0,I 0] (by kernel_rfl) (fun b2 w61_ M61=>?_)
   have zbt:=zld zab M61
   have zaW:=zld zad M61
   replace zab:=zmo M61 zab
   replace zad:=zmo M61 zad
   have zal:=zmb M61
   replace H:=zhd (H.o.ext M61.o.ext)
   replace OE:=zhd (zai OE.o M61.o.ext)
   replace EW:=zet EW M61
   have zvt:Hid (g < b2):=by unfold Hid; have q:=(OE0.o.lt g rfl).2; have q1:=M61.o.at_; omega
   have zbC:Hid (¬ E b2):=fun h=>by have q:=(HIN.o _ h).1; have q1:=M61.o.at_; omega
   have zcg:Hid (w.heap.size<=b2):=by unfold Hid; have q:=zaW.o; have q2:=za9.o; omega
   go_wp2_with (with_reducible refine zT ?_)
   refine zaa rfl 108 (.tmp 8) (.tmp 18) rfl b2 rfl [I kd,I sn] (rfl) zal rfl zvg rfl (fun w62_ M62=>?_)
   replace zab:=zwl M62 zab zbt
   replace zad:=zwl M62 zad zaW
   replace zal:=zwb M62
   replace H:=zHw M62 H zbC
   replace OE:=zhd (M62.o.owns OE.o (zby zvt.o))
   replace EW:=zwe M62 EW zcg
   go_wp2_with (with_reducible refine zT ?_)
   refine zah rfl 43 (.tmp 2) rfl b0 rfl zab za2 zaT (fun v22 H_v22=>?_)
   have q0:=zae (i:=0) zal.o rfl
   have q1:=zae (i:=1) zal.o rfl
   go_wp2_with fail
   clear q0 q1
   rw [H_v22.o]
   clear H_v22
   refine (HDO.o l mk 24 _ _ _ _ _ _ _ kd sn w62_ E H.o (znE GK.o) (by decide)).to fun r w9 e9 hr=>?_
   obtain ⟨m2,er,hD⟩:∃ x y,doM mk kd sn=(x,y):=⟨_,_,rfl⟩
   rw [hD] at hr
   have HD:=zhd hD
   clear hD
   simp only [] at hr
   obtain ⟨cs,rfl,hcs⟩:=ziG hr
   obtain ⟨c2,u2,a2,p2,box2,plan2,cl2,rfl,hm2⟩:=zcu hcs
   obtain ⟨ca2,cc2,ua2,uc2,aa2,ac2,pa2,pc2,xa2,xc2,la2,lc2,ka2,kc2,rfl,rfl,rfl,rfl,rfl,rfl,rfl⟩:=hm2.slices
   clear hcs hr H
   have SC:Hid (b2 < w62_.heap.size):=(zlt zal)
   obtain ⟨E2,HE2⟩:∃ X:Nat->Prop,Hid (∀ k,X k↔((E k∨w62_.heap.size<=k)/\k < w9.heap.size)):=⟨_,fun _=>Iff.rfl⟩
   have H:=zhd (hm2.widen (B:=E2) (fun k hk h=>(HE2.o k).2 ⟨h,hk⟩))
   replace zbc:Hid (¬ E2 b0):=fun h=>by rcases ((HE2.o _).1 h).1 with q | q; exact zbc.o q; exact absurd q (by have q1:=zaQ.o; have q3:=zaW.o; have q2:=SC.o; omega)
   replace zaB:Hid (¬ E2 b1):=fun h=>by rcases ((HE2.o _).1 h).1 with q | q; exact zaB.o q; exact absurd q (by have q3:=zaW.o; have q2:=SC.o; omega)
   replace N_g:Hid (¬ E2 g):=fun h=>by rcases ((HE2.o _).1 h).1 with q | q; exact N_g.o q; exact absurd q (by have q3:=zvt.o; have q2:=SC.o; omega)
   have HIN2:Hid (∀ j,E2 j->j < w9.heap.size/\(A j∨w.heap.size<=j)):=fun j h=>⟨((HE2.o _).1 h).2,by rcases ((HE2.o _).1 h).1 with q | q; exact (HIN.o j q).2; exact .inr (by have q1:=zcg.o; have q2:=SC.o; omega)⟩
   clear HE2 hm2 SC HIN zbC OE0
   replace zab:=zbx zab e9
   replace zad:=zbx zad e9
   replace zal:=zbx zal e9
   replace OE:=zhd (zai OE.o e9)
   replace EW:=zhd (EW.o.trans e9)
   clear e9
   go_wp2_with (with_reducible refine zT ?_)
   refine zaa rfl 43 (.tmp 2) (.tmp 25) rfl b0 rfl [.slice ca2 m2.store.cells.length cc2,.slice ua2 m2.store.undo.length uc2,.slice aa2 m2.store.answers.length ac2,.slice pa2 m2.store.past.length pc2,I m2.server.gen,.slice xa2 m2.server.box.length xc2,.bool m2.server.busy,I m2.server.now.client,I m2.server.now.token,I m2.server.now.call.kind,I m2.server.now.call.name,I m2.server.now.call.other,I m2.server.now.call.n,.slice la2 m2.server.plan.length lc2,I m2.server.says.err,I m2.server.says.n,.bool m2.up,I m2.pause,I m2.falls,.slice ka2 m2.clients.length kc2] (rfl) zab rfl zaT rfl (fun w63_ M63=>?_)
   replace zab:=zwb M63
   replace zad:=zwg M63 zad zaQ
   replace zal:=zwg M63 zal zbt
   replace H:=zHw M63 H zbc
   replace OE:=zhd (M63.o.owns OE.o (zgg zuj.o))
   replace EW:=zwe M63 EW zcO
   replace HIN2:Hid (∀ j,E2 j->j < w63_.heap.size/\(A j∨w.heap.size<=j)):=fun j h=>⟨Nat.lt_of_lt_of_le (HIN2.o j h).1 (Nat.le_of_eq M63.o.size.symm),(HIN2.o j h).2⟩
   obtain ⟨cur,hcur,hbg,hsz,htk,hn,hm⟩:=zge OE.o
   have HEL:Hid ((zdV m (steps.take k)).length=k):=by unfold Hid; rw [zgq,List.length_take]; omega
   have b3:(k:Int) < (steps.length:Int):=by omega
   have b4:(0:Int)<=(k:Int):=by omega
   go_wp2_with ((with_reducible refine zst (L:=[36]) ?_ ?_); exact rfl)
   unfold Hid
   refine zce rfl 36 (.tmp 27) (.tmp 26) rfl g k rfl [I er] rfl hcur (by rw [hsz]; simp; omega) (by kernel_rfl) (zbR rfl) _ rfl (fun wq MQ=>?_)
   have hrow:=zeE hbg hsz htk hn hm MQ.o (by simp; omega)
   have hfs:=zqb (l:=zdV m (steps.take k)) (n:=steps.length) (by rw [HEL.o]; exact hlt) er
   rw [HEL.o] at hfs
   simp only [List.length_cons,List.length_nil,Nat.zero_add] at hrow
   rw [hfs] at hrow
   have KO:=zhd hrow
   have K0:=zhd (MQ.o.old zab.o (Nat.ne_of_lt zuj.o))
   have K1:=zhd (MQ.o.old zad.o (Nat.ne_of_lt zud.o))
   have KH:=zhd (MQ.o.rdM H.o N_g.o)
   have KE:=zwe MQ EW O_g
   have KS:Hid (w63_.heap.size=wq.heap.size):=MQ.o.size.symm
   clear hrow hfs hcur hbg hsz htk hn hm MQ zab zad zal H EW OE
   go_wp2
   go_roundw
   case rel =>
    have hp:m2=zcS m (steps.take (k+1)):=by
     rw [HT.o,playM_snoc,<- HM.o]
     exact (congrArg Prod.fst HD.o).symm
    have he:zdV m (steps.take (k+1))=zdV m (steps.take k)++[er]:=by
     rw [HT.o,playE_snoc,<- HM.o]
     have q:=congrArg Prod.snd HD.o
     simp only [] at q
     rw [q]
    refine ⟨k+1,E2,m2,_,_,_,_,_,_,_,by omega,by go_num,hp,KH.o,fun j hj=>⟨by have q:=(HIN2.o j hj).1; have q2:=KS.o; omega,(HIN2.o j hj).2⟩,zbc.o,zaB.o,N_g.o,K0.o,K1.o,?_,KE.o⟩
    rw [he]
    exact KO.o
   case measure=>simp [intOf]; omega
  ·obtain rfl:k=steps.length:=by omega
   go_wp2_with (with_reducible refine zT ?_)
   refine zah rfl 43 (.tmp 2) rfl b0 rfl zab za2 zaT (fun vf H_vf=>?_)
   go_wp2_with (with_reducible refine zT ?_)
   refine zaa rfl 43 (.tmp 4) (.tmp 29) rfl b1 rfl _ (zcv H_vf) zad rfl zaT rfl (fun w41_ M41=>?_)
   replace zab:=zwl M41 zab zaQ
   replace zad:=zwb M41
   replace H:=zHw M41 H zaB
   replace OE:=zhd (M41.o.owns OE.o (zgg zud.o))
   replace EW:=zwe M41 EW za9
   go_wp2
   have z0:=zau (P:=Tryz.prog) 43 zad.o za2 (by kernel_rfl)
   refine bodyPost_ret (by simp [results,Tryz.results23,asAddr,z0]; rfl) rfl ?_
   have ht:steps.take steps.length=steps:=List.take_length
   have hmm:=HM.o
   rw [ht] at hmm
   have hoe:=OE.o
   rw [ht,zqG (zgq steps m)] at hoe
   have r1:=(H.o.widen (B:=fun k=>A k∨w.heap.size<=k) (fun k _ h=>(HIN.o k h).2)).mc
   rw [hmm] at r1
   have r2:=(zdy hoe).widen (B:=fun k=>A k∨w.heap.size<=k) (fun k _ h=>.inr (by have q:=za9.o; omega))
   refine ⟨_,rfl,EW.o,(r1.and r2).imp fun w' h=>⟨_,_,(by rw [<- hmm]),h.1,?_⟩⟩
   have h2:=h.2
   unfold zc2
   rw [zgq]
   exact h2

theorem ztF (hNew:ztO) (hEach:zi0):zfL:=fun v sv l steps w A hv hs=>by
 unfold za3
 have HSW:=zhd hs
 obtain ⟨sa0,scap,rfl,s1,s2,-⟩:=hs.form
 unfold maxLen at s2
 have HNW:=zhd hNew
 have HEA:=zhd hEach
 have HV:=zhd (hv.widen (B:=fun k=>A k/\k < w.heap.size) (fun k hk h=>⟨h,hk⟩))
 clear hv hs hNew hEach
 obtain ⟨va,vcap,rfl⟩:=zaf HV.o.o
 obtain ⟨NE,HNE⟩:∃ x,Hid (ze4 l=x):=⟨_,rfl⟩
 obtain ⟨NM,HNM⟩:∃ x,Hid (zpV l=x):=⟨_,rfl⟩
 have EW:=zhd (Ext.refl w)
 go_enter Tryz.func12,Tryz.ntmps12
 go_wp2_with (with_reducible refine zT ?_)
 refine zac rfl 43 zM (by kernel_rfl) (fun b0 w1_ M1=>?_)
 have zab:=zmb M1
 replace EW:=zet EW M1
 have zcO:Hid (w.heap.size<=b0):=by unfold Hid; have q:=M1.o.at_; omega
 go_wp2_with fail
 refine (HNW.o _ l w1_ (fun k=>A k/\k < w.heap.size) (HV.o.ext M1.o.ext)).to fun r w2 e2 hr=>?_
 obtain ⟨c,u,a,p,box,plan,cl,rfl,hM,hrl⟩:=ztu hr HNM.o
 rw [HNE.o] at hrl ⊢
 obtain ⟨ca,cc,ua,uc,aa,ac,pa,pc,xa,xc,la,lc,ka,kc,rfl,rfl,rfl,rfl,rfl,rfl,rfl⟩:=hM.slices
 have H:=zhd hM
 have HRL:=zhd hrl
 clear hM hr hrl HV
 replace zab:=zbx zab e2
 replace EW:=zhd (EW.o.trans e2)
 clear e2
 go_wp2_with (with_reducible refine zT ?_)
 refine zac rfl 43 zM (by kernel_rfl) (fun b1 w2_ M2=>?_)
 have zaQ:=zld zab M2
 replace zab:=zmo M2 zab
 have zad:=zmb M2
 replace EW:=zet EW M2
 have za9:Hid (w.heap.size<=b1):=by unfold Hid; have q:=zaQ.o; have q2:=zcO.o; omega
 obtain ⟨E,HE⟩:∃ E:Nat->Prop,Hid (∀ k,E k↔(((A k/\k < w.heap.size)∨w1_.heap.size<=k)/\k < b1)):=⟨_,fun _=>Iff.rfl⟩
 replace H:=zhd ((H.o.widen (B:=E) (fun k hk h=>(HE.o k).2 ⟨h,by have q:=M2.o.at_; omega⟩)).ext M2.o.ext)
 have zbc:Hid (¬ E b0):=fun h=>by have q:=((HE.o _).1 h).1; have q1:=M1.o.at_; have q2:=M1.o.size; omega
 have zaB:Hid (¬ E b1):=fun h=>by have q:=((HE.o _).1 h).2; omega
 have HIN:Hid (∀ j,E j->j < b1/\(A j∨w.heap.size<=j)):=fun j h=>⟨((HE.o j).1 h).2,by rcases ((HE.o j).1 h).1 with q | q; exact .inl q.1; exact .inr (by have q2:=M1.o.ext.size; omega)⟩
 go_wp2_with (with_reducible refine zT ?_)
 refine zaa rfl 43 (.tmp 7) (.tmp 14) rfl b1 rfl [.slice ca NM.store.cells.length cc,.slice ua NM.store.undo.length uc,.slice aa NM.store.answers.length ac,.slice pa NM.store.past.length pc,I NM.server.gen,.slice xa NM.server.box.length xc,.bool NM.server.busy,I NM.server.now.client,I NM.server.now.token,I NM.server.now.call.kind,I NM.server.now.call.name,I NM.server.now.call.other,I NM.server.now.call.n,.slice la NM.server.plan.length lc,I NM.server.says.err,I NM.server.says.n,.bool NM.up,I NM.pause,I NM.falls,.slice ka NM.clients.length kc] (rfl) zad rfl zaT rfl (fun w3_ M3=>?_)
 replace zab:=zwl M3 zab zaQ
 replace zad:=zwb M3
 replace H:=zHw M3 H zaB
 replace EW:=zwe M3 EW za9
 by_cases hz:NE=0
 case neg =>
  have hb:(NE != 0)=true:=by simpa using hz
  have hpe:zcr l steps=NE:=by unfold zcr; rw [if_pos (by rw [HNE.o]; exact hz),HNE.o]
  go_wp2_with (with_reducible refine zT ?_)
  refine zbm rfl 43 #[] rfl zM (by kernel_rfl) (fun v18 H_v18=>?_)
  rw [H_v18.o]
  clear H_v18
  go_wp2_with (with_reducible refine zT ?_)
  refine zaa rfl 43 (.tmp 4) (.tmp 18) rfl b0 rfl [.slice none 0 0,.slice none 0 0,.slice none 0 0,.slice none 0 0,I 0,.slice none 0 0,.bool false,I 0,I 0,I 0,I 0,I 0,I 0,.slice none 0 0,I 0,I 0,.bool false,I 0,I 0,.slice none 0 0] (rfl) zab rfl zaT rfl (fun w4_ M4=>?_)
  replace zab:=zwb M4
  replace zad:=zwg M4 zad zaQ
  replace H:=zHw M4 H zbc
  replace EW:=zwe M4 EW zcO
  go_wp2
  have z0:=zau (P:=Tryz.prog) 43 zab.o za2 (by kernel_rfl)
  refine bodyPost_ret (by simp [results,Tryz.results12,asAddr,z0]; rfl) rfl ?_
  have r1:=(zo7 (fun k=>A k∨w.heap.size<=k) w4_).mc
  exact ⟨_,rfl,EW.o,r1.imp fun w' h=>⟨_,_,by rw [hpe]; rfl,fun h0=>absurd (hpe.symm.trans h0) hz,fun _=>⟨zeroMc,rfl,h,zhy w'⟩⟩⟩
 obtain rfl:NM=zcJ l:=by rw [<- HNM.o]; exact if_pos (by rw [HNE.o]; exact hz)
 subst hz
 have HL:=zhd (HRL.o rfl)
 clear HRL
 by_cases h4:steps.length<=400
 case neg =>
  have h4i:(400:Int) < (steps.length:Int):=by omega
  have hpe:zcr l steps=5:=by unfold zcr; rw [if_neg (by rw [HNE.o]; simp),if_pos (by omega)]
  go_wp2_with (with_reducible refine zT ?_)
  refine zbm rfl 43 #[] rfl zM (by kernel_rfl) (fun v23 H_v23=>?_)
  rw [H_v23.o]
  clear H_v23
  go_wp2_with (with_reducible refine zT ?_)
  refine zaa rfl 43 (.tmp 4) (.tmp 23) rfl b0 rfl [.slice none 0 0,.slice none 0 0,.slice none 0 0,.slice none 0 0,I 0,.slice none 0 0,.bool false,I 0,I 0,I 0,I 0,I 0,I 0,.slice none 0 0,I 0,I 0,.bool false,I 0,I 0,.slice none 0 0] (rfl) zab rfl zaT rfl (fun w4_ M4=>?_)
  replace zab:=zwb M4
  replace zad:=zwg M4 zad zaQ
  replace H:=zHw M4 H zbc
  replace EW:=zwe M4 EW zcO
  go_wp2
  have z0:=zau (P:=Tryz.prog) 43 zab.o za2 (by kernel_rfl)
  refine bodyPost_ret (by simp [results,Tryz.results12,asAddr,z0]; rfl) rfl ?_
  have r1:=(zo7 (fun k=>A k∨w.heap.size<=k) w4_).mc
  exact ⟨_,rfl,EW.o,r1.imp fun w' h=>⟨_,_,by rw [hpe]; rfl,fun h0=>absurd (hpe.symm.trans h0) (by decide),fun _=>⟨zeroMc,rfl,h,zhy w'⟩⟩⟩
 have h4i:¬ (400:Int) < (steps.length:Int):=by omega
 have hpe:Hid (zcr l steps=0):=by unfold Hid zcr; rw [if_neg (by rw [HNE.o]; simp),if_neg (by omega)]
 go_wp2_with (with_reducible refine zT ?_)
 refine zah rfl 43 (.tmp 7) rfl b1 rfl zad za2 zaT (fun v25 H_v25=>?_)
 go_wp2_with fail
 rw [H_v25.o]
 clear H_v25
 refine (HEA.o l (zcJ l) _ _ _ _ _ _ _ _ steps w3_ E H.o (zlW HL.o []) (HSW.o.ext EW.o) (by omega)).to fun r w9 e9 hr=>?_
 obtain ⟨m2,HM2⟩:∃ x,Hid (zcS (zcJ l) steps=x):=⟨_,rfl⟩
 obtain ⟨cs,es,rfl,hcs,hes⟩:=zps hr
 rw [HM2.o] at hcs
 obtain ⟨c2,u2,a2,p2,box2,plan2,cl2,rfl,hm2⟩:=zcu hcs
 obtain ⟨ca2,cc2,ua2,uc2,aa2,ac2,pa2,pc2,xa2,xc2,la2,lc2,ka2,kc2,rfl,rfl,rfl,rfl,rfl,rfl,rfl⟩:=hm2.slices
 clear hcs hr H
 have SC:Hid (b1 < w3_.heap.size):=(zlt zad)
 obtain ⟨E2,HE2⟩:∃ X:Nat->Prop,Hid (∀ k,X k↔((E k∨w3_.heap.size<=k)/\k < w9.heap.size)):=⟨_,fun _=>Iff.rfl⟩
 have H:=zhd (hm2.widen (B:=E2) (fun k hk h=>(HE2.o k).2 ⟨h,hk⟩))
 have HES:=zhd (hes.widen (B:=E2) (fun k hk h=>(HE2.o k).2 ⟨h,hk⟩))
 replace zbc:Hid (¬ E2 b0):=fun h=>by rcases ((HE2.o _).1 h).1 with q | q; exact zbc.o q; exact absurd q (by have q1:=zaQ.o; have q2:=SC.o; omega)
 have HIN2:Hid (∀ j,E2 j->j < w9.heap.size/\(A j∨w.heap.size<=j)):=fun j h=>⟨((HE2.o _).1 h).2,by rcases ((HE2.o _).1 h).1 with q | q; exact (HIN.o j q).2; exact .inr (by have q1:=za9.o; have q2:=SC.o; omega)⟩
 clear HE2 hm2 hes SC HIN HE zad zaB
 replace zab:=zbx zab e9
 replace EW:=zhd (EW.o.trans e9)
 clear e9
 go_wp2_with (with_reducible refine zT ?_)
 refine zac rfl 43 zM (by kernel_rfl) (fun b2 w4_ M4=>?_)
 have zbt:=zld zab M4
 replace zab:=zmo M4 zab
 have zal:=zmb M4
 replace H:=zhd (H.o.ext M4.o.ext)
 replace HES:=zme M4 HES
 replace EW:=zet EW M4
 have zbC:Hid (¬ E2 b2):=fun h=>by have q:=(HIN2.o _ h).1; have q1:=M4.o.at_; omega
 have zcg:Hid (w.heap.size<=b2):=by unfold Hid; have q:=zbt.o; have q2:=zcO.o; omega
 go_wp2_with (with_reducible refine zT ?_)
 refine zaa rfl 43 (.tmp 9) (.tmp 28) rfl b2 rfl [.slice ca2 m2.store.cells.length cc2,.slice ua2 m2.store.undo.length uc2,.slice aa2 m2.store.answers.length ac2,.slice pa2 m2.store.past.length pc2,I m2.server.gen,.slice xa2 m2.server.box.length xc2,.bool m2.server.busy,I m2.server.now.client,I m2.server.now.token,I m2.server.now.call.kind,I m2.server.now.call.name,I m2.server.now.call.other,I m2.server.now.call.n,.slice la2 m2.server.plan.length lc2,I m2.server.says.err,I m2.server.says.n,.bool m2.up,I m2.pause,I m2.falls,.slice ka2 m2.clients.length kc2] (rfl) zal rfl zaT rfl (fun w5_ M5=>?_)
 replace zab:=zwl M5 zab zbt
 replace zal:=zwb M5
 replace H:=zHw M5 H zbC
 replace HES:=zwr M5 HES zbC
 replace EW:=zwe M5 EW zcg
 go_wp2_with (with_reducible refine zT ?_)
 refine zah rfl 43 (.tmp 9) rfl b2 rfl zal za2 zaT (fun vf H_vf=>?_)
 go_wp2_with (with_reducible refine zT ?_)
 refine zaa rfl 43 (.tmp 4) (.tmp 30) rfl b0 rfl _ (zcv H_vf) zab rfl zaT rfl (fun w6_ M6=>?_)
 replace zab:=zwb M6
 replace zal:=zwg M6 zal zbt
 replace H:=zHw M6 H zbc
 replace HES:=zwr M6 HES zbc
 replace EW:=zwe M6 EW zcO
 go_wp2
 have z0:=zau (P:=Tryz.prog) 43 zab.o za2 (by kernel_rfl)
 refine bodyPost_ret (by simp [results,Tryz.results12,asAddr,z0]; rfl) rfl ?_
 have r1:=(H.o.widen (B:=fun k=>A k∨w.heap.size<=k) (fun k _ h=>(HIN2.o k h).2)).mc
 have r2:=HES.o.widen (B:=fun k=>A k∨w.heap.size<=k) (fun k _ h=>(HIN2.o k h).2)
 rw [<- HM2.o] at r1
 exact ⟨_,rfl,EW.o,(r1.and r2).imp fun w' h=>⟨_,_,(by rw [hpe.o,<- HM2.o]),fun _=>⟨HL.o,h.1,h.2⟩,fun h0=>absurd hpe.o h0⟩⟩

open Go.RowKit Go.Mk

theorem Tryz.infoStep:(Tryz.prog.info? 108).map (fun i=>(i.zero,i.size,i.bytes))=some (some (.agg #[.int .i64 0,.int .i64 0]),2,16):=by kernel_rfl

def zdW (n:Nat):List (Int×Int):=(4,0)::(List.range n).map (fun (k:Nat)=>((1:Int),(k:Int)))
theorem zih (k:Nat):zdW (k+1)=zdW k++[(1,(k:Int))]:=by simp [zdW,List.range_succ]
theorem turnsL_len (k:Nat):(zdW k).length=k+1:=by simp [zdW]
theorem play_turns (m:Mc):∀ k,zcS m (zdW k)=zjO m k
 | 0=>rfl
 | k+1=>by rw [zih,playM_snoc,play_turns m k,zml]
theorem zok (m:Mc):zcS m (zdW m.clients.length++[(2,0)])=roundM m:=by
 have e:(zbP m).clients=m.clients:=by
  unfold zbP
  split
  ·rfl
  ·split <;> rfl
 rw [playM_snoc,play_turns,round_all,e]

theorem zkN (n:Nat) (hn:n<=1000) (w:World):zaw Tryz.prog 49 #[I n] w (fun r w'=>zar w' r (zdW n++[(2,0)])):=by
 unfold zaw;obtain ⟨i0,hi,hz0,hz1,hz2⟩:=info_parts Tryz.infoStep;go_enter Tryz.func49,Tryz.ntmps49
 go_wp2_with fail
 go_loopw [3,8] (fun v i wr=>∃ (k:Nat),k<=n/\i=I k/\wr.ownsRow w.heap.size 108 2 v (k+1) (zaC (zdW k))/\Ext w wr) (fun _ i _=>n - (intOf i).toNat)
 case atStart=>exact ⟨0,Nat.zero_le _,rfl,zbB (zmW w _) (Nat.le_refl _) rfl (by decide),(Ext.refl w).alloc _⟩
 case round =>
  obtain ⟨k,hk,rfl,ho,he⟩:=hrel;by_cases hlt:k < n
  ·have b3:(k:Int) < (n:Int):=by omega
   go_wp2_with (at_builtin; refine zb7 ?_)
   unfold Hid;refine zaJ _ rfl (.tmp 11) (.tmp 14) 22 rfl w.heap.size 108 i0 (.agg #[.int .i64 0,.int .i64 0]) 2 16 zqQ hi hz0 hz1 hz2 rfl (by decide) _ (k+1) (zaC (zdW k)) rfl (ho.alloc _) _ rfl 1 [I 1,I k] (Row.of_owns (zbB (zmW wr _) (Nat.le_refl _) rfl (by decide))) (zbR rfl) (by omega) (by decide) (by have z:=he.size; simp; omega) ?_;intro v' w3 ho3 hg3;have he3:Ext w w3:=(he.alloc _).grown hg3 (fun j hj=>(ho.lt j hj).1);clear hg3 ho he;go_wp2
   go_roundw
   case rel=>exact ⟨k+1,by omega,by go_num,by rw [zih,zcy]; exact ho3,he3⟩
   case measure=>simp [intOf]; omega
  ·obtain rfl:k=n:=by omega
   have b3:¬ (k:Int) < (k:Int):=by omega
   go_wp2_with (at_builtin; refine zb7 ?_)
   unfold Hid;refine zaJ _ rfl (.tmp 17) (.tmp 19) 22 rfl w.heap.size 108 i0 (.agg #[.int .i64 0,.int .i64 0]) 2 16 zqQ hi hz0 hz1 hz2 rfl (by decide) _ (k+1) (zaC (zdW k)) rfl (ho.alloc _) _ rfl 1 [I 2,I 0] (Row.of_owns (zbB (zmW wr _) (Nat.le_refl _) rfl (by decide))) (zbR rfl) (by omega) (by decide) (by have z:=he.size; simp; omega) ?_;intro v' w3 ho3 hg3;have he3:Ext w w3:=(he.alloc _).grown hg3 (fun j hj=>(ho.lt j hj).1);clear hg3 ho he;go_wp2
   refine bodyPost_ret (by simp [results,Tryz.results49]; rfl) rfl ?_;refine ⟨_,rfl,he3,zas (base:=w.heap.size) (e:=108) (n:=k+1+1) ?_⟩;rw [zcy];exact ho3

theorem zgK (hEach:zi0) {l:List (List Cl)} {m m2:Mc} (hm2:roundM m=m2) {c u a p box plan cl sv:Value} {w:World} {E Z:Nat->Prop} (h:RdM E w m c u a p box plan cl) (hgz:GzM l m) (hst:zar w sv (zdW m.clients.length++[(2,0)])) (hz:∀ k,(E k∨w.heap.size<=k)->Z k) :
  Calls Tryz.prog 23 #[.agg (zaM m c u a p box plan cl).toArray,sv] w fun e w9=>∃ (c u a p box plan cl es:Value),e=.returned (.tuple #[.agg (zaM m2 c u a p box plan cl).toArray,es])/\Ext w w9/\RdM Z w9 m2 c u a p box plan cl :=
 (hEach l m _ _ _ _ _ _ _ sv _ w E h hgz hst (by have:=(zsP hgz).clients; rw [List.length_append,turnsL_len,List.length_singleton]; omega)).to fun r w9 e9 hr=>by
  obtain ⟨cs,es,rfl,hcs,-⟩:=zps hr
  rw [zok,hm2] at hcs
  obtain ⟨_,_,_,_,_,_,_,rfl,hm⟩:=zcu hcs
  exact ⟨_,_,_,_,_,_,_,es,rfl,e9,hm.widen fun k _ h=>hz k h⟩

theorem zrP (hEach:zi0):zlz:=fun l m c u a p box plan cl w A h hgz=>by
 unfold za3
 have HEA:=zhd hEach
 have GZ:=zhd hgz
 have HLC:Hid (m.clients.length<=1000):=(zsP hgz).clients
 obtain ⟨m2,HM2⟩:∃ x,Hid (roundM m=x):=⟨_,rfl⟩
 rw [HM2.o]
 obtain ⟨ca,cc,ua,uc,aa,ac,pa,pc,xa,xc,la,lc,ka,kc,rfl,rfl,rfl,rfl,rfl,rfl,rfl⟩:=h.slices
 obtain ⟨E0,HE0⟩:∃ E:Nat->Prop,Hid (∀ k,E k↔(A k/\k < w.heap.size)):=⟨_,fun _=>Iff.rfl⟩
 have H:=zhd (h.widen (B:=E0) (fun k hk h=>(HE0.o k).2 ⟨h,hk⟩))
 clear h hgz hEach
 have EW:=zhd (Ext.refl w)
 go_enter Tryz.func25,Tryz.ntmps25
 go_wp2_with (with_reducible refine zT ?_)
 refine zam rfl 43 (.tmp 0) rfl #[.slice ca m.store.cells.length cc,.slice ua m.store.undo.length uc,.slice aa m.store.answers.length ac,.slice pa m.store.past.length pc,I m.server.gen,.slice xa m.server.box.length xc,.bool m.server.busy,I m.server.now.client,I m.server.now.token,I m.server.now.call.kind,I m.server.now.call.name,I m.server.now.call.other,I m.server.now.call.n,.slice la m.server.plan.length lc,I m.server.says.err,I m.server.says.n,.bool m.up,I m.pause,I m.falls,.slice ka m.clients.length kc] rfl (fun b0 w1_ M1=>?_)
 have zab:=zmb M1
 replace H:=zhd (H.o.ext M1.o.ext)
 replace EW:=zet EW M1
 have zbc:Hid (¬ E0 b0):=fun h=>by have q:=((HE0.o _).1 h).2; have q1:=M1.o.at_; omega
 have zcO:Hid (w.heap.size<=b0):=by unfold Hid; have q1:=M1.o.at_; omega
 go_wp2_with (with_reducible refine zT ?_)
 refine zac rfl 43 zM (by kernel_rfl) (fun b1 w2_ M2=>?_)
 have zaQ:=zld zab M2
 replace zab:=zmo M2 zab
 have zad:=zmb M2
 replace H:=zhd (H.o.ext M2.o.ext)
 replace EW:=zet EW M2
 have za9:Hid (w.heap.size<=b1):=by unfold Hid; have q1:=zaQ.o; have q2:=zcO.o; omega
 have HZ:Hid (∀ k,E0 k->k < w.heap.size/\(A k∨w.heap.size<=k)/\k≠b1):=fun k h=>⟨((HE0.o k).1 h).2,.inl ((HE0.o k).1 h).1,by have q:=((HE0.o k).1 h).2; have q1:=za9.o; omega⟩
 have SK:Hid (b1 < w2_.heap.size):=(zlt zad)
 go_upto_region 1 with fail
 go_frame
 go_cut [3] (fun p3 wc=>∃ (b2:Nat) (c u a p box plan cl:Value),p3=.pointer (some ⟨b2,0,none⟩)/\w2_.heap.size<=b2/\wc.heap[b2]?=some (.cells (zaM m2 c u a p box plan cl).toArray 43 (0,0))/\Ext w2_ wc/\RdM (fun k=>(A k∨w.heap.size<=k)/\k≠b1) wc m2 c u a p box plan cl)
 case first =>
  clear zad
  replace EW:Hid (Ext w2_ w2_):=Ext.refl _
  go_wp2_with fail
  refine zbL (S:=fun w'=>w'.heap[b0]?=some (.cells #[.slice ca m.store.cells.length cc,.slice ua m.store.undo.length uc,.slice aa m.store.answers.length ac,.slice pa m.store.past.length pc,I m.server.gen,.slice xa m.server.box.length xc,.bool m.server.busy,I m.server.now.client,I m.server.now.token,I m.server.now.call.kind,I m.server.now.call.name,I m.server.now.call.other,I m.server.now.call.n,.slice la m.server.plan.length lc,I m.server.says.err,I m.server.says.n,.bool m.up,I m.pause,I m.falls,.slice ka m.clients.length kc] 43 (0,0))) (by kernel_rfl) (fun wd ed _=>?_)
  replace zab:=zbx zab ed
  replace H:=zhd (H.o.ext ed)
  replace EW:=zhd (EW.o.trans ed)
  have HSS:=zab
  refine za8 0 rfl (by kernel_rfl) (by kernel_rfl) (by kernel_rfl) (fun _ _ _ _ h=>h) rfl 43 (.tmp 1) rfl b0 rfl (fun w' hS=>hS) za2 (by kernel_rfl) HSS ?_
  refine zag fun K h=>?_; go_simp; refine h _ ?_; clear h K
  refine zak 1 rfl (by kernel_rfl) (by kernel_rfl) (by kernel_rfl) (fun _ _ _ _ h=>h) rfl HSS.o (fun K hK=>?_); go_simp; refine hK _ ?_; clear hK K
  refine zbG 2 rfl (by kernel_rfl) (by kernel_rfl) (by kernel_rfl) (fun _ _ _ _ h=>h) (.slice ka m.clients.length kc) rfl (fun w' hS=>by have q0:=zae (i:=19) hS rfl; go_simp) HSS.o ?_
  refine zag fun K h=>?_; go_simp; refine h _ ?_; clear h K
  refine zak 3 rfl (by kernel_rfl) (by kernel_rfl) (by kernel_rfl) (fun _ _ _ _ h=>h) rfl HSS.o (fun K hK=>?_); go_simp; refine hK _ ?_; clear hK K
  refine zf6 4 9 (by kernel_rfl) ?_ ?_
  ·refine zdm rfl rfl 49 #[I m.clients.length] (by go_simp) ?_
   refine (zkN m.clients.length HLC.o wd).to fun sv wt et hst=>?_
   replace zab:=zbx zab et
   replace H:=zhd (H.o.ext et)
   replace EW:=zhd (EW.o.trans et)
   have HST:=zhd hst
   clear HSS et hst
   refine ⟨_,rfl,zab.o,?_⟩
   have HSS:=zab
   refine zag fun K h=>?_; go_simp; refine h _ ?_; clear h K
   refine zf6 5 9 (by kernel_rfl) ?_ ?_
   ·refine zdm rfl rfl 23 #[.agg #[.slice ca m.store.cells.length cc,.slice ua m.store.undo.length uc,.slice aa m.store.answers.length ac,.slice pa m.store.past.length pc,I m.server.gen,.slice xa m.server.box.length xc,.bool m.server.busy,I m.server.now.client,I m.server.now.token,I m.server.now.call.kind,I m.server.now.call.name,I m.server.now.call.other,I m.server.now.call.n,.slice la m.server.plan.length lc,I m.server.says.err,I m.server.says.n,.bool m.up,I m.pause,I m.falls,.slice ka m.clients.length kc],sv] (by go_simp) ?_
    refine Calls.mono (zgK (Z:=fun k=>(A k∨w.heap.size<=k)/\k≠b1) HEA.o HM2.o H.o GZ.o HST.o (fun k h=>by
     have q1:=za9.o; have q2:=SK.o; have q3:=EW.o.size
     rcases h with h | h
     ·exact (HZ.o k h).2
     ·exact ⟨.inr (by omega),by omega⟩)) fun e w9 ⟨c2,u2,a2,p2,box2,plan2,cl2,es,e1,e9,hm2⟩=>?_
    subst e1
    obtain ⟨ca2,cc2,ua2,uc2,aa2,ac2,pa2,pc2,xa2,xc2,la2,lc2,ka2,kc2,rfl,rfl,rfl,rfl,rfl,rfl,rfl⟩:=hm2.slices
    clear H HST HSS
    have H:=zhd hm2
    clear hm2
    replace zab:=zbx zab e9
    replace EW:=zhd (EW.o.trans e9)
    clear e9
    refine ⟨_,rfl,zab.o,?_⟩
    have HSS:=zab
    refine zag fun K h=>?_; go_simp; refine h _ ?_; clear h K
    refine zak 6 rfl (by kernel_rfl) (by kernel_rfl) (by kernel_rfl) (fun _ _ _ _ h=>h) rfl HSS.o (fun K hK=>?_); go_simp; refine hK _ ?_; clear hK K
    refine zak 7 rfl (by kernel_rfl) (by kernel_rfl) (by kernel_rfl) (fun _ _ _ _ h=>h) rfl HSS.o (fun K hK=>?_); go_simp; refine hK _ ?_; clear hK K
    refine zak 8 rfl (by kernel_rfl) (by kernel_rfl) (by kernel_rfl) (fun _ _ _ _ h=>h) rfl HSS.o (fun K hK=>?_); go_simp; refine hK _ ?_; clear hK K
    have SZ:Hid (w2_.heap.size<=w9.heap.size):=EW.o.size
    refine zdB 9 (by kernel_rfl) (zcX rfl rfl 43 zM (by kernel_rfl) (fun b2 w3_ M3=>⟨M3.o.old zab.o,?_⟩))
    have zbt:=zld zab M3
    replace zab:=zmo M3 zab
    have zal:=zmb M3
    replace H:=zhd ((H.o.widen (B:=fun k=>((A k∨w.heap.size<=k)/\k≠b1)/\k≠b2) fun k hk h=>⟨h,by have q2:=M3.o.at_; omega⟩).ext M3.o.ext)
    replace EW:=zet EW M3
    clear HSS
    have HSS:=zab
    refine zag fun K h=>?_; go_simp; refine h _ ?_; clear h K
    have zcg:Hid (w2_.heap.size<=b2):=by unfold Hid; have q:=SZ.o; have q2:=M3.o.at_; omega
    clear SZ
    refine za7 10 (by kernel_rfl) rfl rfl 43 (.tmp 3) (.tmp 12) rfl b2 rfl [.slice ca2 m2.store.cells.length cc2,.slice ua2 m2.store.undo.length uc2,.slice aa2 m2.store.answers.length ac2,.slice pa2 m2.store.past.length pc2,I m2.server.gen,.slice xa2 m2.server.box.length xc2,.bool m2.server.busy,I m2.server.now.client,I m2.server.now.token,I m2.server.now.call.kind,I m2.server.now.call.name,I m2.server.now.call.other,I m2.server.now.call.n,.slice la2 m2.server.plan.length lc2,I m2.server.says.err,I m2.server.says.n,.bool m2.up,I m2.pause,I m2.falls,.slice ka2 m2.clients.length kc2] rfl zal rfl (by kernel_rfl) rfl (fun wz MZ=>⟨MZ.o.old zab.o (Nat.ne_of_lt zbt.o),?_⟩)
    clear HSS
    have HSS:=zhd (MZ.o.old zab.o (Nat.ne_of_lt zbt.o))
    refine zag fun K h=>?_; go_simp; refine h _ ?_; clear h K
    refine zaF 11 (by kernel_rfl) rfl rfl _ rfl HSS.o ?_
    refine zag fun K h=>?_; go_simp; refine h _ ?_; clear h K
    refine wpAnyH_done (by kernel_rfl) ?_ _
    clear HSS
    go_wp2_with fail
    go_meet
    case rel=>exact ⟨b2,_,_,_,_,_,_,_,rfl,zcg.o,MZ.o.block,MZ.o.ext EW.o zcg.o,(MZ.o.rdM H.o (fun h=>h.2 rfl)).widen fun k _ h=>h.1⟩
   ·have SZ:Hid (w2_.heap.size<=wt.heap.size):=EW.o.size
    refine zcX rfl rfl 43 zM (by kernel_rfl) (fun b2 w3_ M3=>⟨M3.o.old zab.o,?_⟩)
    have zbt:=zld zab M3
    replace zab:=zmo M3 zab
    have zal:=zmb M3
    replace H:=zhd (H.o.ext M3.o.ext)
    replace HST:=zhd (HST.o.ext M3.o.ext)
    replace EW:=zet EW M3
    clear HSS
    have HSS:=zab
    refine zag fun K h=>?_; go_simp; refine h _ ?_; clear h K
    have zcg:Hid (w2_.heap.size<=b2):=by unfold Hid; have q:=SZ.o; have q2:=M3.o.at_; omega
    clear SZ
    refine zcZ 5 (by kernel_rfl) rfl rfl 23 #[.agg #[.slice ca m.store.cells.length cc,.slice ua m.store.undo.length uc,.slice aa m.store.answers.length ac,.slice pa m.store.past.length pc,I m.server.gen,.slice xa m.server.box.length xc,.bool m.server.busy,I m.server.now.client,I m.server.now.token,I m.server.now.call.kind,I m.server.now.call.name,I m.server.now.call.other,I m.server.now.call.n,.slice la m.server.plan.length lc,I m.server.says.err,I m.server.says.n,.bool m.up,I m.pause,I m.falls,.slice ka m.clients.length kc],sv] (by go_simp) ?_
    have SC:Hid (b2 < w3_.heap.size):=(zlt zal)
    refine Calls.mono (zgK (Z:=fun k=>((A k∨w.heap.size<=k)/\k≠b1)/\k≠b2) HEA.o HM2.o H.o GZ.o HST.o (fun k h=>by
     have q1:=za9.o; have q2:=SK.o; have q3:=EW.o.size; have q4:=SC.o; have q5:=zcg.o
     rcases h with h | h
     ·exact ⟨(HZ.o k h).2,by have q:=(HZ.o k h).1; have q1:=za9.o; have q2:=SK.o; have q3:=EW.o.size; have q4:=SC.o; have q5:=zcg.o; omega⟩
     ·exact ⟨⟨.inr (by omega),by omega⟩,by omega⟩)) fun e w9 ⟨c2,u2,a2,p2,box2,plan2,cl2,es,e1,e9,hm2⟩=>?_
    subst e1
    obtain ⟨ca2,cc2,ua2,uc2,aa2,ac2,pa2,pc2,xa2,xc2,la2,lc2,ka2,kc2,rfl,rfl,rfl,rfl,rfl,rfl,rfl⟩:=hm2.slices
    clear H HST HSS
    have H:=zhd hm2
    clear hm2
    replace zab:=zbx zab e9
    replace zal:=zbx zal e9
    replace EW:=zhd (EW.o.trans e9)
    clear e9
    refine ⟨_,rfl,zab.o,?_⟩
    have HSS:=zab
    refine zag fun K h=>?_; go_simp; refine h _ ?_; clear h K
    refine zak 6 rfl (by kernel_rfl) (by kernel_rfl) (by kernel_rfl) (fun _ _ _ _ h=>h) rfl HSS.o (fun K hK=>?_); go_simp; refine hK _ ?_; clear hK K
    refine zak 7 rfl (by kernel_rfl) (by kernel_rfl) (by kernel_rfl) (fun _ _ _ _ h=>h) rfl HSS.o (fun K hK=>?_); go_simp; refine hK _ ?_; clear hK K
    refine zak 8 rfl (by kernel_rfl) (by kernel_rfl) (by kernel_rfl) (fun _ _ _ _ h=>h) rfl HSS.o (fun K hK=>?_); go_simp; refine hK _ ?_; clear hK K
    refine za7 10 (by kernel_rfl) rfl rfl 43 (.tmp 3) (.tmp 12) rfl b2 rfl [.slice ca2 m2.store.cells.length cc2,.slice ua2 m2.store.undo.length uc2,.slice aa2 m2.store.answers.length ac2,.slice pa2 m2.store.past.length pc2,I m2.server.gen,.slice xa2 m2.server.box.length xc2,.bool m2.server.busy,I m2.server.now.client,I m2.server.now.token,I m2.server.now.call.kind,I m2.server.now.call.name,I m2.server.now.call.other,I m2.server.now.call.n,.slice la2 m2.server.plan.length lc2,I m2.server.says.err,I m2.server.says.n,.bool m2.up,I m2.pause,I m2.falls,.slice ka2 m2.clients.length kc2] rfl zal rfl (by kernel_rfl) rfl (fun wz MZ=>⟨MZ.o.old zab.o (Nat.ne_of_lt zbt.o),?_⟩)
    clear HSS
    have HSS:=zhd (MZ.o.old zab.o (Nat.ne_of_lt zbt.o))
    refine zag fun K h=>?_; go_simp; refine h _ ?_; clear h K
    refine zaF 11 (by kernel_rfl) rfl rfl _ rfl HSS.o ?_
    refine zag fun K h=>?_; go_simp; refine h _ ?_; clear h K
    refine wpAnyH_done (by kernel_rfl) ?_ _
    clear HSS
    go_wp2_with fail
    go_meet
    case rel=>exact ⟨b2,_,_,_,_,_,_,_,rfl,zcg.o,MZ.o.block,MZ.o.ext EW.o zcg.o,(MZ.o.rdM H.o (fun h=>h.2 rfl)).widen fun k _ h=>h.1⟩
  ·have SZ:Hid (w2_.heap.size<=wd.heap.size):=EW.o.size
   refine zcX rfl rfl 43 zM (by kernel_rfl) (fun b2 w3_ M3=>⟨M3.o.old zab.o,?_⟩)
   have zbt:=zld zab M3
   replace zab:=zmo M3 zab
   have zal:=zmb M3
   replace H:=zhd (H.o.ext M3.o.ext)
   replace EW:=zet EW M3
   clear HSS
   have HSS:=zab
   refine zag fun K h=>?_; go_simp; refine h _ ?_; clear h K
   have zcg:Hid (w2_.heap.size<=b2):=by unfold Hid; have q:=SZ.o; have q2:=M3.o.at_; omega
   clear SZ
   refine zcZ 4 (by kernel_rfl) rfl rfl 49 #[I m.clients.length] (by go_simp) ?_
   refine (zkN m.clients.length HLC.o w3_).to fun sv wt et hst=>?_
   replace zab:=zbx zab et
   replace zal:=zbx zal et
   replace H:=zhd (H.o.ext et)
   replace EW:=zhd (EW.o.trans et)
   have HST:=zhd hst
   clear HSS et hst
   refine ⟨_,rfl,zab.o,?_⟩
   have HSS:=zab
   refine zag fun K h=>?_; go_simp; refine h _ ?_; clear h K
   refine zcZ 5 (by kernel_rfl) rfl rfl 23 #[.agg #[.slice ca m.store.cells.length cc,.slice ua m.store.undo.length uc,.slice aa m.store.answers.length ac,.slice pa m.store.past.length pc,I m.server.gen,.slice xa m.server.box.length xc,.bool m.server.busy,I m.server.now.client,I m.server.now.token,I m.server.now.call.kind,I m.server.now.call.name,I m.server.now.call.other,I m.server.now.call.n,.slice la m.server.plan.length lc,I m.server.says.err,I m.server.says.n,.bool m.up,I m.pause,I m.falls,.slice ka m.clients.length kc],sv] (by go_simp) ?_
   have SC:Hid (b2 < wt.heap.size):=(zlt zal)
   refine Calls.mono (zgK (Z:=fun k=>((A k∨w.heap.size<=k)/\k≠b1)/\k≠b2) HEA.o HM2.o H.o GZ.o HST.o (fun k h=>by
    have q1:=za9.o; have q2:=SK.o; have q3:=EW.o.size; have q4:=SC.o; have q5:=zcg.o
    rcases h with h | h
    ·exact ⟨(HZ.o k h).2,by have q:=(HZ.o k h).1; have q1:=za9.o; have q2:=SK.o; have q3:=EW.o.size; have q4:=SC.o; have q5:=zcg.o; omega⟩
    ·exact ⟨⟨.inr (by omega),by omega⟩,by omega⟩)) fun e w9 ⟨c2,u2,a2,p2,box2,plan2,cl2,es,e1,e9,hm2⟩=>?_
   subst e1
   obtain ⟨ca2,cc2,ua2,uc2,aa2,ac2,pa2,pc2,xa2,xc2,la2,lc2,ka2,kc2,rfl,rfl,rfl,rfl,rfl,rfl,rfl⟩:=hm2.slices
   clear H HST HSS
   have H:=zhd hm2
   clear hm2
   replace zab:=zbx zab e9
   replace zal:=zbx zal e9
   replace EW:=zhd (EW.o.trans e9)
   clear e9
   refine ⟨_,rfl,zab.o,?_⟩
   have HSS:=zab
   refine zag fun K h=>?_; go_simp; refine h _ ?_; clear h K
   refine zak 6 rfl (by kernel_rfl) (by kernel_rfl) (by kernel_rfl) (fun _ _ _ _ h=>h) rfl HSS.o (fun K hK=>?_); go_simp; refine hK _ ?_; clear hK K
   refine zak 7 rfl (by kernel_rfl) (by kernel_rfl) (by kernel_rfl) (fun _ _ _ _ h=>h) rfl HSS.o (fun K hK=>?_); go_simp; refine hK _ ?_; clear hK K
   refine zak 8 rfl (by kernel_rfl) (by kernel_rfl) (by kernel_rfl) (fun _ _ _ _ h=>h) rfl HSS.o (fun K hK=>?_); go_simp; refine hK _ ?_; clear hK K
   refine za7 10 (by kernel_rfl) rfl rfl 43 (.tmp 3) (.tmp 12) rfl b2 rfl [.slice ca2 m2.store.cells.length cc2,.slice ua2 m2.store.undo.length uc2,.slice aa2 m2.store.answers.length ac2,.slice pa2 m2.store.past.length pc2,I m2.server.gen,.slice xa2 m2.server.box.length xc2,.bool m2.server.busy,I m2.server.now.client,I m2.server.now.token,I m2.server.now.call.kind,I m2.server.now.call.name,I m2.server.now.call.other,I m2.server.now.call.n,.slice la2 m2.server.plan.length lc2,I m2.server.says.err,I m2.server.says.n,.bool m2.up,I m2.pause,I m2.falls,.slice ka2 m2.clients.length kc2] rfl zal rfl (by kernel_rfl) rfl (fun wz MZ=>⟨MZ.o.old zab.o (Nat.ne_of_lt zbt.o),?_⟩)
   clear HSS
   have HSS:=zhd (MZ.o.old zab.o (Nat.ne_of_lt zbt.o))
   refine zag fun K h=>?_; go_simp; refine h _ ?_; clear h K
   refine zaF 11 (by kernel_rfl) rfl rfl _ rfl HSS.o ?_
   refine zag fun K h=>?_; go_simp; refine h _ ?_; clear h K
   refine wpAnyH_done (by kernel_rfl) ?_ _
   clear HSS
   go_wp2_with fail
   go_meet
   case rel=>exact ⟨b2,_,_,_,_,_,_,_,rfl,zcg.o,MZ.o.block,MZ.o.ext EW.o zcg.o,(MZ.o.rdM H.o (fun h=>h.2 rfl)).widen fun k _ h=>h.1⟩
 case rest =>
  rename World=>wc
  obtain ⟨b2,c2,u2,a2,p2,box2,plan2,cl2,rfl,hb2,hblk,hex,hm⟩:=hcut
  obtain ⟨ca2,cc2,ua2,uc2,aa2,ac2,pa2,pc2,xa2,xc2,la2,lc2,ka2,kc2,rfl,rfl,rfl,rfl,rfl,rfl,rfl⟩:=hm.slices
  clear H zab HE0 HZ
  have zaW:Hid (b1 < b2):=by unfold Hid; have q:=SK.o; omega
  have H:=zhd hm
  have zaB:Hid (¬ ((A b1∨w.heap.size<=b1)/\b1≠b1)):=fun h=>h.2 rfl
  have zal:Hid (wc.heap[b2]?=some (.cells #[.slice ca2 m2.store.cells.length cc2,.slice ua2 m2.store.undo.length uc2,.slice aa2 m2.store.answers.length ac2,.slice pa2 m2.store.past.length pc2,I m2.server.gen,.slice xa2 m2.server.box.length xc2,.bool m2.server.busy,I m2.server.now.client,I m2.server.now.token,I m2.server.now.call.kind,I m2.server.now.call.name,I m2.server.now.call.other,I m2.server.now.call.n,.slice la2 m2.server.plan.length lc2,I m2.server.says.err,I m2.server.says.n,.bool m2.up,I m2.pause,I m2.falls,.slice ka2 m2.clients.length kc2] 43 (0,0))):=hblk
  replace zad:=zbx zad hex
  replace EW:=zhd (EW.o.trans hex)
  clear hex hblk hm hb2
  go_wp2_with (with_reducible refine zT ?_)
  refine zah rfl 43 (.tmp 3) rfl b2 rfl zal za2 zaT (fun vf H_vf=>?_)
  go_wp2_with (with_reducible refine zT ?_)
  refine zaa rfl 43 (.tmp 2) (.tmp 14) rfl b1 rfl _ (zcv H_vf) zad rfl zaT rfl (fun w61_ M61=>?_)
  replace zad:=zwb M61
  replace zal:=zwg M61 zal zaW
  replace H:=zHw M61 H zaB
  replace EW:=zwe M61 EW za9
  go_wp2
  have z0:=zau (P:=Tryz.prog) 43 zad.o za2 (by kernel_rfl)
  refine bodyPost_ret (by simp [results,Tryz.results25,asAddr,z0,Act.put]; rfl) rfl ?_
  exact ⟨_,rfl,EW.o,(H.o.widen (B:=fun k=>A k∨w.heap.size<=k) (fun k _ h=>h.1)).mc.imp fun w' h=>⟨_,rfl,h⟩⟩

end Go.Proofs.YtdmipnnfoolelagGreatDoor

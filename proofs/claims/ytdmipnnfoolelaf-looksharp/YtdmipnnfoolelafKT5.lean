/- Texts of the proof, merged: Q5. -/
import Derived.Test.YtdmipnnfoolelafKTA
import Derived.Test.YtdmipnnfoolelafKT4
import Derived.Test.YtdmipnnfoolelafKTL
import Derived.Test.YtdmipnnfoolelafKTN
import Derived.Test.YtdmipnnfoolelafKTV
set_option maxHeartbeats 16000000
set_option maxRecDepth 100000

namespace Go.Proofs.Ytdmipnnfoolelaf
open Go.RowKit Go.Mk

theorem Try.infoReplyQ:(Try.prog.info? 38).map (fun i=>(i.zero,i.size,i.bytes))=some (some (.agg #[I 0,I 0]),2,16):=by kernel_rfl
theorem Try.infoRequestQ:(Try.prog.info? 35).map (fun i=>(i.zero,i.size,i.bytes))=some (some (.agg #[I 0,I 0,I 0,I 0,I 0,I 0]),6,48):=by kernel_rfl
theorem Try.infoIntQ:(Try.prog.info? 3).map (fun i=>(i.zero,i.size,i.bytes))=some (some (I 0),1,8):=by kernel_rfl
theorem Try.infoClientQ:(Try.prog.info? 61).map (fun i=>(i.zero,i.size,i.bytes))=some (some (.agg zC),6,96):=by kernel_rfl
theorem zmY {m:Mc} (h:LookM m) {i:Nat} {c:Cn} (hc:m.clients[i]?=some c) {r0 r:Rp} {rest:List Rp} (hg:c.got=r0::rest):LookM { m with clients:=m.clients.set i { c with got:=r::rest } }:=by
 have hm:c ∈ m.clients:=List.mem_of_getElem? hc
 have hl:(r::rest).length=c.got.length:=by rw [hg]; rfl
 obtain ⟨s1,s2,s3,s4⟩:=h.small
 refine ⟨h.cells,h.most,h.past,h.len,⟨s1,s2,by simpa using s3,fun c' hc'=>?_⟩,fun c' hc'=>?_⟩
 ·rcases List.mem_or_eq_of_mem_set hc' with q | rfl
  ·exact s4 c' q
  ·obtain ⟨t1,t2,t3,t4⟩:=s4 c hm
   exact ⟨t1,t2,t3,by simp only [hl]; exact t4⟩
 ·rcases List.mem_or_eq_of_mem_set hc' with q | rfl
  ·exact h.each c' q
  ·have t:=h.each c hm
   exact ⟨t.at0,t.at1,t.calls,by simp only [hl]; exact t.got,t.box,t.bytes⟩
theorem zlz {m:Mc} (h:LookM m) (x:Int):LookM { m with store:={ zaK m.store with cells:=(zaK m.store).cells.set 2 x } }:=by
 have hl:(zaK m.store).cells.length=11:=by simp only [zaK]; rw [zbe]; exact h.cells
 have e0:((zaK m.store).cells.set 2 x).getD 0 0=(zaK m.store).cells.getD 0 0:=by rw [List.getD_eq_getElem?_getD,List.getElem?_set_ne (by decide),<- List.getD_eq_getElem?_getD]
 obtain ⟨⟨s1,s2,s3,s4⟩,s5⟩:=h.small
 refine ⟨by simp only [List.length_set]; exact hl,?_,h.past,h.len,⟨⟨by simp only [List.length_set]; omega,by simp [zaK],s3,s4⟩,s5⟩,h.each⟩
 show 0<=((zaK m.store).cells.set 2 x).getD 0 0/\((zaK m.store).cells.set 2 x).getD 0 0<=5
 rw [e0]
 exact h.most
theorem zlK {m:Mc} (h:LookM m) (hlen:m.store.past.length<=900) {r:Rq} (hr:r ∈ m.store.past):LookM { m with store:={ m.store with past:=m.store.past++[r] } }:=by
 obtain ⟨⟨s1,s2,s3,s4⟩,s5⟩:=h.small
 refine ⟨h.cells,h.most,fun q hq=>?_,by simp only [List.length_append,List.length_cons,List.length_nil]; omega,⟨⟨s1,s2,s3,by simp only [List.length_append,List.length_cons,List.length_nil]; omega⟩,s5⟩,h.each⟩
 rcases List.mem_append.1 hq with hq | hq
 ·exact h.past q hq
 ·rw [List.mem_singleton.1 hq]
  exact h.past r hr
theorem zng {l:List (List Cl)} {m:Mc} {k:Nat} (h:Gd l m k) {i:Nat} {c:Cn} (hc:m.clients[i]?=some c) {r0 r:Rp} {rest:List Rp} (hg:c.got=r0::rest) (hne:r≠r0):¬ zd6 { m with clients:=m.clients.set i { c with got:=r::rest } }:=zlI (zjA h) hc hg hne
theorem zm3 {l:List (List Cl)} {m:Mc} {k:Nat} (h:Gd l m k) {x:Int} (h0:(zaK m.store).cells.getD 0 0≠0) (hx:(zaK m.store).cells.getD 2 0≠x):¬ zd6 { m with store:={ zaK m.store with cells:=(zaK m.store).cells.set 2 x } }:=fun hw=>by
 obtain ⟨_,⟨ks,bz,h2⟩,_⟩:=h
 exact zkj h2.nm h2.right h0 hx hw.1
theorem zmk {l:List (List Cl)} {m:Mc} {k:Nat} (h:Gd l m k) {j:Nat} {r:Rq} (hr:m.store.past[j]?=some r):¬ zd6 { m with store:={ m.store with past:=m.store.past++[r] } }:=fun hw=>by
 obtain ⟨_,⟨ks,bz,h2⟩,_⟩:=h
 obtain ⟨i,c,hc,_,hn⟩:=zjv h2 hr
 exact hn (hw.2 i c hc)
theorem zfU {size:Nat}:∀ {css:List (List Value)},(∀ c ∈ css,c.length=size)->∀ {k:Nat} {c:List Value},css[k]?=some c->∀ {j:Nat},j < size->∀ v:Value,(css.set k (c.set j v)).flatten=css.flatten.set (k * size+j) v
 | [],_,k,c,hc,j,hj,v=>by simp at hc
 | c0::css,h,0,c,hc,j,hj,v=>by
  have hc:some c0=some c:=hc
  cases hc
  have h0:=h c0 (by simp)
  simp only [List.set_cons_zero,List.flatten_cons,Nat.zero_mul,Nat.zero_add]
  rw [List.set_append_left _ _ (by omega)]
 | c0::css,h,k+1,c,hc,j,hj,v=>by
  have h0:=h c0 (by simp)
  simp only [List.set_cons_succ,List.flatten_cons]
  rw [zfU (fun c hc=>h c (List.mem_cons_of_mem _ hc)) hc hj v,List.set_append_right _ _ (by rw [h0,Nat.add_mul]; omega),h0]
  congr 1
  rw [Nat.add_mul]
  congr 1
  omega
theorem makes_value {P:Program} {o:Oper} {a:Act} {w:World} {T:Value->World->Prop} {v:Value} (h:(execOp a.eval o).run P w=.ok (.value v) w) (hT:T v w):zaI P o a w T:=by
 unfold zaI
 rw [h]
 exact ⟨Ext.refl _,hT⟩
def zoK (T:Nat):Op->Bool
 | .binOp .eql t _ _ _=>t == T
 | _=>false
theorem zse {P:Program} {ops:Array Oper} {rest:List Oper} {o:Oper} {a:Act} {w:World} {Q:Exit->Act->World->Prop} {T:Nat} (_:zoK T o.op=true) (h:Hid (wpList P ops Q (o::rest) a w)):wpList P ops Q (o::rest) a w:=h
theorem zhp {P:Program} {ops:Array Oper} {rest:List Oper} {o:Oper} {a:Act} {w:World} {Q:Exit->Act->World->Prop} (hw:Region.wanted o (yielded ops a.tmps)=true) {v:Value} (h1:(execOp a.eval o).run P w=.ok (.value v) w) (h:wpList P ops Q rest (a.put o.dst v) w):wpList P ops Q (o::rest) a w:=by
 refine wpList_step fun K hK=>?_
 rw [if_pos hw]
 unfold Oper.wp
 rw [h1,Oper.upon_value]
 exact hK _ _ h
theorem zjt {w:World} {ao:Option Addr} {n cap:Nat} {r0:Rp} {rest:List Rp} (h:zaq 2 zdA w (.slice ao n cap) (r0::rest)):∃ b off,ao=some ⟨b,off,none⟩/\n=rest.length+1/\n<=cap/\cap<=maxLen/\w.cell? ⟨b,off,none⟩=some (I r0.err)/\w.cell? ⟨b,off+1,none⟩=some (I r0.n)/\zaq 2 zdA w (.slice (some ⟨b,off+2,none⟩) rest.length (cap - 1)) rest:=by
 obtain ⟨ao',cap',e,h1,h2,hf⟩:=zdu h
 simp only [Value.slice.injEq] at e
 obtain ⟨rfl,rfl,rfl⟩:=e
 obtain ⟨b,off,rfl,p0,p1⟩:=hf 0 r0 rfl
 simp only [Nat.zero_mul,Nat.add_zero] at p0 p1
 have hd:=zaq.drop (by decide) h 1 (by simp)
 exact ⟨b,off,rfl,by simp,by simpa using h1,h2,p0,p1,by simpa using hd⟩

theorem ziA (hNow:zjn) (hPast:zf1) (hIdle:zhl) (hWhole:zf9) (v0 v1:Value) (l:List (List Cl)) (steps:List (Int×Int)) (kind n x:Int) (w:World) (h0:zaq 1 zdb w v0 l) (h1:zan w v1 steps) :
  zba Try.prog 5 #[v0,v1,I kind,I n,I x] w fun r _=>r=.bool true:=by
 refine zb6 ?_;have HV:=zhd (Rd.widen (B:=fun _=>True) (Rd.of (zcS zgb _ _) h0) (fun _ _ _=>trivial));replace HV:Hid (Rd (fun _=>True) (fun w=>zaq 1 zdb w v0 l) w):=HV;have HSTP:=zhd h1;obtain ⟨za,zc,rfl⟩:=zac h0;obtain ⟨ta,tc,rfl⟩:=zam h1;have HNO:=zhd hNow;have HPO:=zhd hPast;have HIO:=zhd hIdle;have HWO:=zhd hWhole;clear h0 h1 hNow hPast hIdle hWhole;have EW:=zhd (Ext.refl w);obtain ⟨B,HB0⟩:∃ B:Nat->Prop,Hid (∀ k,B k↔True):=⟨_,fun _=>Iff.rfl⟩;replace HV:=zhd (HV.o.widen (B:=B) fun k _ _=>(HB0.o k).2 trivial);go_enter Try.func5,Try.ntmps5
 go_wp2_with fail
 refine (zfE HNO.o HPO.o HIO.o HWO.o w).to fun r wl el hr=>?_;subst hr;replace HV:=zrx HV el;replace EW:=zhd (EW.o.trans el);clear el;go_wp2_with fail
 refine (zeP _ l wl HV.o.o).mono ?_;rintro e wr0 ⟨bR,rfl,hbR,e0⟩
 replace HV:=zrx HV e0;replace EW:=zhd (EW.o.trans e0);clear e0;cases bR
 case false =>
  go_wp2
  go_ret
  exact ⟨rfl,EW.o⟩
 have HRL:=zhd (hbR.1 rfl);clear hbR;go_wp2_with fail
 obtain ⟨P,HP⟩:∃ X:Nat->Prop,Hid (∀ k,X k↔(B k∨wr0.heap.size<=k)):=⟨_,fun _=>Iff.rfl⟩;replace HV:=zhd (HV.o.widen (B:=P) fun k _ h=>(HP.o k).2 (.inl h));refine (zej _ _ l steps wr0 P HRL.o HV.o (HSTP.o.ext EW.o)).to fun r wp ep hr=>?_;obtain ⟨cs,es,rfl,hm,hes⟩:=zi1 hr;obtain ⟨mk,hmk⟩:∃ mk,zdc (newMc l) (steps.take 400)=mk:=⟨_,rfl⟩;have hgd:=ziP HRL.o steps;rw [hmk] at hm hgd;obtain ⟨c,u,a,p,box,plan,cl,rfl,hM⟩:=zeT hm;obtain ⟨ca,cc,ua,uc,aa,ac,pa,pc,xa,xc,la,lc,ka,kc,rfl,rfl,rfl,rfl,rfl,rfl,rfl⟩:=hM.slices;have GD:=zhd hgd;obtain ⟨esa,esc,rfl⟩:=zam hes.o;have H:=zhd (hM.widen (B:=P) fun k _ h=>(HP.o k).2 (by rcases h with h | h; exact (HP.o k).1 h; exact .inr h));clear hM hm hr hes hmk hgd;replace HV:=zrx HV ep;replace EW:=zhd (EW.o.trans ep);clear ep;go_wp2_with (with_reducible refine zT ?_)
 refine zah rfl 43 zM (by kernel_rfl) (fun b11 w1_ M1=>?_);obtain ⟨P1,HP1⟩:=zEx P b11;have zbZ:=zNn HP1;have zi6:=zOn M1 EW;have zbr:=zmb M1;go_wp2_with (with_reducible refine zT ?_)
 refine zaf rfl 43 (.tmp 11) (.tmp 22) rfl b11 rfl [.slice ca mk.store.cells.length cc,.slice ua mk.store.undo.length uc,.slice aa mk.store.answers.length ac,.slice pa mk.store.past.length pc,I mk.server.gen,.slice xa mk.server.box.length xc,.bool mk.server.busy,I mk.server.now.client,I mk.server.now.token,I mk.server.now.call.kind,I mk.server.now.call.name,I mk.server.now.call.other,I mk.server.now.call.n,.slice la mk.server.plan.length lc,I mk.server.says.err,I mk.server.says.n,.bool mk.up,I mk.pause,I mk.falls,.slice ka mk.clients.length kc] (rfl) zbr rfl za2 rfl (fun w2_ M2=>?_);replace zbr:=zwb M2;have HLK:=zhd (ziv GD.o (by decide));clear HV HSTP HNO HPO HIO;replace H:=zHw M2 (zhd ((zMD HP1 M1 H).o.ext M1.o.ext)) zbZ;replace EW:=zwe M2 (zet EW M1) zi6;by_cases hk0:kind=0
 case pos =>
  subst hk0;by_cases hn0:n < 0
  case pos =>
   have hb:=decide_eq_true hn0;go_wp2
   go_ret
   exact ⟨rfl,EW.o⟩
  obtain ⟨i,rfl⟩:∃ i:Nat,n=(i:Int):=⟨n.toNat,by omega⟩;clear hn0;have hb1:decide ((i:Int) < 0)=false:=decide_eq_false (by omega);have x19:=zaa (i:=19) zbr.o rfl;by_cases hlt:i < mk.clients.length
  case neg =>
   have hb2:decide ((mk.clients.length:Int)<=(i:Int))=true:=decide_eq_true (by omega);have hb3:decide (mk.clients.length<=i)=true:=decide_eq_true (by omega);go_wp2
   go_ret
   exact ⟨rfl,EW.o⟩
  have hb2:decide ((mk.clients.length:Int)<=(i:Int))=false:=decide_eq_false (by omega);have hb3:decide (mk.clients.length<=i)=false:=decide_eq_false (by omega);obtain ⟨css,hcs⟩:=zdg (by decide) H.o.clients;obtain ⟨c0,c,hc0,hc,-⟩:=ziC hcs.left.o hlt;obtain ⟨kcalls,kbox,kgot,rfl,q1,q2,q3⟩:=zho (ziL hcs.left hc0 hc)
  obtain ⟨kb,ko,hka⟩:∃ b o,ka=some ⟨b,o,none⟩:=by
   obtain ⟨_,_,e1,_,_,_,hf⟩:=H.o.clients.o.form (by decide);simp only [Value.slice.injEq,true_and] at e1;obtain ⟨rfl,rfl⟩:=e1;obtain ⟨b,o,_,e2,_⟩:=hf _ _ hc;exact ⟨b,o,e2⟩
  subst hka;have HRG:=zhd (zfg (by decide) hcs.right.o hcs.left.o.sizes hc0);obtain ⟨ol,oat,osent,ogen,xl,gl⟩:=c;simp only [] at q1 q2 q3 HRG hc0;obtain ⟨ka1,kc1,rfl⟩:=zac q1.o;obtain ⟨kx1,ky1,rfl⟩:=zac q2.o;obtain ⟨kg1,kh1,rfl⟩:=zac q3.o;have hi1:(i:Int) < (mk.clients.length:Int):=by omega
  have hi0:(0:Int)<=(i:Int):=by omega
  have g5:=HRG.o 5 _ rfl;have HCS:=zhd hcs.left;have HRW:=zhd hcs.right;have Q1:=zhd q1;have Q2:=zhd q2;have Q3:=zhd q3;have HC0:=zhd hc0;have HC:=zhd hc;have HLT:=zhd hlt;clear hcs q1 q2 q3 hc0 hc hlt HRG;cases gl with
  | nil =>
   simp only [List.length_nil] at g5;go_wp2
   go_ret
   exact ⟨rfl,EW.o⟩
  | cons r0 rest =>
   simp only [List.length_cons] at g5;obtain ⟨gb,go2,rfl,hgn,hgc,hgm,p0,p1,hrest⟩:=zjt Q3.o.o;have hz1:((rest.length:Int)+1 == 0)=false:=by simp; omega
   have hz2:(((rest.length+1:Nat):Int) == 0)=false:=by simp; omega
   have hz3:decide ((rest.length:Int)+1=0)=false:=decide_eq_false (by omega);have hz4:(0:Int) < (rest.length:Int)+1:=by omega
   obtain ⟨re,rn⟩:=r0;simp only [] at p0 p1;have hst:Try.prog.stoodInHeld 38=false:=by kernel_rfl
   have hgd:Try.prog.eqGuardType Try.prog.depth 38=false:=by kernel_rfl
   by_cases hrx:re=0/\rn=x
   case pos =>
    obtain ⟨rfl,rfl⟩:=hrx;go_wp2
    go_ret
    exact ⟨rfl,EW.o⟩
   have HNE:Hid ((⟨0,x⟩:Rp)≠⟨re,rn⟩):=fun e=>hrx (by cases e; exact ⟨rfl,rfl⟩);have HREST:=zhd (And.intro hgc hgm);clear hrest;go_wp2_with (with_reducible refine zT ?_)
   unfold Hid;refine zhp rfl (v:=.agg #[I 0,I x]) (by go_simp) ?_;go_wp2_with ((with_reducible refine zse (T:=38) ?_ ?_); exact rfl)
   unfold Hid;refine zhp rfl (v:=.bool false) ?_ ?_
   ·by_cases q1:re=0
    ·subst q1;have q2:¬ rn=x:=fun e=>hrx ⟨rfl,e⟩;go_simp
    ·go_simp
   clear hrx;go_wp2_with (with_reducible refine zT ?_)
   unfold Hid;clear hst hgd hz1 hz2 hz3 hz4 hb1 hb2 hb3 p0 p1 g5 x19;refine zbQ rfl 61 0 #[] (by kernel_rfl) (fun b3 w3_ M3=>?_);have zmy:=zld zbr M3;obtain ⟨P11,HP11⟩:=zEx P1 b3;have zbw:=zNn HP11;have zev:=zOn M3 EW;have zaA:=zmb M3;replace zbr:=zmo M3 zbr;have c19:=zaa (i:=19) zbr.o rfl;go_wp2_with (first | (at_builtin; refine zbl ?_) | (with_reducible refine zT ?_))
   unfold Hid;clear c19;replace HCS:=zme M3 (zmd HP11 M3 HCS);have hones:=HCS.o.o.ones znQ;obtain ⟨i0,hi,hz0,hz1,hz2⟩:=info_parts Try.infoClientQ;have hfull:zb5 b3 61 6 0 [] (.slice (some ⟨b3,0,none⟩) 0 0) w3_:=⟨b3,rfl,zbC M3.o (Nat.le_refl _) rfl (by decide)⟩;have hcl:mk.clients.length<=1000:=HLK.o.small.2.2.1;replace HRW:=zme M3 (zmd HP11 M3 HRW);refine zcQ rfl (.tmp 59) (.tmp 61) 41 rfl b3 61 i0 (.agg zC) 6 96 zoa hi hz0 hz1 hz2 rfl (by decide) _ 0 [] rfl hfull (.slice (some ⟨kb,ko,none⟩) mk.clients.length kc) rfl mk.clients.length css.flatten HRW.o.o hones (by omega) (by decide) (by have:=M3.o.size; omega) ?_;intro v62 w62 ho5 e5;simp only [Nat.zero_add,List.nil_append] at ho5;clear hfull hones hi hz0 hz1 hz2 hcl
   obtain ⟨g,cap,rfl⟩:∃ g cap,v62=.slice (some ⟨g,0,none⟩) mk.clients.length cap:=by
    rcases ho5.2 with ⟨_,e1⟩ | ⟨g,cap,cur,e1,_⟩
    ·have q:=HLT.o; omega
    ·exact ⟨g,cap,e1⟩
   have hbg:b3<=g:=(ho5.lt g rfl).1;obtain ⟨P111,HP111⟩:=zEx P11 g;have hnar:∀ k,k < w3_.heap.size->P11 k->P111 k:=fun k hk h=>(HP111.o k).2 ⟨h,by have q2:=M3.o.size; have q3:=((HP11.o k).1 h).2; omega⟩;replace zbZ:=znw HP11 zbZ;replace zbZ:Hid (¬ P111 b11):=fun h=>zbZ.o ((HP111.o _).1 h).1;replace zbw:Hid (¬ P111 b3):=fun h=>zbw.o ((HP111.o _).1 h).1;have N_g:=zNn HP111;replace H:=zhd ((zhd ((zMD HP11 M3 H).o.ext M3.o.ext)).o.widen (B:=P111) hnar);replace Q1:=zhd ((zme M3 (zmd HP11 M3 Q1)).o.widen (B:=P111) hnar);replace Q2:=zhd ((zme M3 (zmd HP11 M3 Q2)).o.widen (B:=P111) hnar);replace Q3:=zhd ((zme M3 (zmd HP11 M3 Q3)).o.widen (B:=P111) hnar);replace HCS:=zhd (HCS.o.widen (B:=P111) hnar);replace HRW:=zhd (HRW.o.widen (B:=P111) hnar);clear hnar;have O_g:Hid (w.heap.size<=g):=by unfold Hid; have q:=zev.o; omega
   have HO:=zhd ho5;have HBG:=zhd hbg;replace EW:=zhd ((zet EW M3).o.trans e5);replace zbr:=zbx zbr e5;replace zaA:=zbx zaA e5;replace H:=zhd (H.o.ext e5);replace HCS:=zrx HCS e5;replace HRW:=zrx HRW e5;replace Q1:=zrx Q1 e5;replace Q2:=zrx Q2 e5;replace Q3:=zrx Q3 e5;clear ho5 hbg e5;have znn:Hid (b11 < g):=Nat.lt_of_lt_of_le zmy.o HBG.o;clear zaA;go_wp2_with (with_reducible refine zT ?_)
   refine zap rfl 41 (.tmp 63) (.tmp 62) rfl b11 19 rfl [.slice (some ⟨g,0,none⟩) mk.clients.length cap] (rfl) zbr rfl zn9 rfl [.slice ca mk.store.cells.length cc,.slice ua mk.store.undo.length uc,.slice aa mk.store.answers.length ac,.slice pa mk.store.past.length pc,I mk.server.gen,.slice xa mk.server.box.length xc,.bool mk.server.busy,I mk.server.now.client,I mk.server.now.token,I mk.server.now.call.kind,I mk.server.now.call.name,I mk.server.now.call.other,I mk.server.now.call.n,.slice la mk.server.plan.length lc,I mk.server.says.err,I mk.server.says.n,.bool mk.up,I mk.pause,I mk.falls,.slice (some ⟨g,0,none⟩) mk.clients.length cap] rfl (fun w4_ M4=>?_);replace zbr:=zwb M4;have c19:=zaa (i:=19) zbr.o rfl;replace HCS:=zwr M4 HCS zbZ;replace HO:=zhd (M4.o.owns HO.o (zeq znn.o));have hrw:=zfg (w:=w4_) (by decide) (Row.of_owns HO.o) HCS.o.o.sizes HC0.o
   have g5:w4_.cell? ⟨g,i * 6+5,none⟩=some (.slice (some ⟨gb,go2,none⟩) (rest.length+1) kh1):=by
    have q:=hrw 5 _ rfl;rw [Nat.zero_add] at q;exact q
   obtain ⟨i0,hi,hz0,hz1,hz2⟩:=info_parts Try.infoReplyQ;have HI:=zhd hi;clear hi hrw;go_wp2_with fail
   replace H:=zHw M4 H zbZ;replace HRW:=zwr M4 HRW zbZ;replace Q1:=zwr M4 Q1 zbZ;replace Q2:=zwr M4 Q2 zbZ;replace Q3:=zwr M4 Q3 zbZ;replace EW:=zwe M4 EW zi6;refine zau 16 [none,none,none,none,none,some (.inr (zb5 w4_.heap.size 38 2 1 [I 0,I x])),none,none,none,none,none,none,some (.inr (fun (v:Value) (wx:World)=>Row wx 2 v rest.length (zbh rest))),some (.inr (fun (v:Value) (wx:World)=>wx.ownsRow w4_.heap.size 38 2 v (1+rest.length) ([I 0,I x]++zbh rest))),none,none] (by kernel_rfl) (by kernel_rfl) ?_ ?_
   ·exact ⟨trivial,trivial,trivial,trivial,trivial,zdP _ _ _ _ _,trivial,trivial,trivial,trivial,trivial,trivial,fun _ _ _ he h=>Row.ext h he,zbA _ _ _ _ _,trivial,trivial,trivial⟩
   (refine zaj (fun K hK=>?_); go_simp; first | refine hK _ ?_ | refine ⟨(fun h=>by cases h),hK _ ?_⟩; clear hK K)
   refine zax (.slice (some ⟨g,0,none⟩) mk.clients.length cap) rfl (fun w' hw'=>by have q0:=hw'.cell c19; go_simp) ?_;refine zae fun K h=>?_; go_simp; refine h _ ?_; clear h K;iterate 3 (refine zaj (fun K hK=>?_); go_simp; first | refine hK _ ?_ | refine ⟨(fun h=>by cases h),hK _ ?_⟩; clear hK K)
   refine za0 _ rfl (fun w' hw' hk=>?_) (fun v69=>?_)
   ·have hsz:=hw'.size;clear hk;unfold zaI;go_simp
    exact ⟨(Ext.refl _).alloc _,zdR #[I 0,I x] 1 hsz (by decide) rfl⟩
   refine zae fun K h=>?_; go_simp; refine h _ ?_; clear h K;(refine zaj (fun K hK=>?_); go_simp; first | refine hK _ ?_ | refine ⟨(fun h=>by cases h),hK _ ?_⟩; clear hK K)
   refine zax (.slice (some ⟨g,0,none⟩) mk.clients.length cap) rfl (fun w' hw'=>by have q0:=hw'.cell c19; go_simp) ?_;refine zae fun K h=>?_; go_simp; refine h _ ?_; clear h K;iterate 3 (refine zaj (fun K hK=>?_); go_simp; first | refine hK _ ?_ | refine ⟨(fun h=>by cases h),hK _ ?_⟩; clear hK K)
   refine zax (.slice (some ⟨gb,go2,none⟩) (rest.length+1) kh1) rfl (fun w' hw'=>by have q0:=hw'.cell g5; go_simp) ?_;refine zae fun K h=>?_; go_simp; refine h _ ?_; clear h K;refine za0 _ rfl (fun w' hw' hk=>?_) (fun v76=>?_)
   ·clear hk
    have hrow:Row w' 2 (.slice (some ⟨gb,go2+2,none⟩) rest.length (kh1 - 1)) rest.length (zbh rest):=by
     obtain ⟨_,_,e1,_,_,_,_,_,q9⟩:=zjt Q3.o.o;cases e1
     exact ((zbz (f:=fun (x:Rp)=>[I x.err,I x.n]) (fun _=>rfl)).1 q9).ext hw'
    by_cases hcap:kh1=1
    ·have hl0:rest=[]:=List.eq_nil_of_length_eq_zero (by have q:=HREST.o.1; omega);subst hl0 hcap;refine makes_value (v:=.slice (some ⟨gb,go2,none⟩) 0 0) (by go_simp) ?_;exact zib w' gb go2 0 (by decide)
    ·exact makes_value (v:=.slice (some ⟨gb,go2+2,none⟩) rest.length (kh1 - 1)) (by go_simp; intro h; omega) hrow
   refine zae fun K h=>?_; go_simp; refine h _ ?_; clear h K;refine za0 _ rfl (fun w' hw' hk=>?_) (fun v77=>?_)
   ·have h69:zb5 w4_.heap.size 38 2 1 [I 0,I x] v69 w':=hk 69 (by decide);have h76:Row w' 2 v76 rest.length (zbh rest):=hk 76 (by decide)
    have hgl:rest.length<=1000:=by
     have q:=(HLK.o.each _ (List.mem_of_getElem? HC.o)).got;simp only [List.length_cons] at q;omega
    obtain ⟨vv,ww,hrun,hoo,hee⟩:=zbv (P:=Try.prog) w' w4_.heap.size 47 47 38 i0 _ 2 16 zg5 HI.o hz0 hz1 hz2 rfl (by decide) v69 1 _ h69 v76 rest.length _ h76 (zdS _) (by omega) (by decide) hw'.size;exact zcc rfl rfl rfl hrun hee hoo
   refine zae fun K h=>?_; go_simp; refine h _ ?_; clear h K;iterate 2 (refine zaj (fun K hK=>?_); go_simp; first | refine hK _ ?_ | refine ⟨(fun h=>by cases h),hK _ ?_⟩; clear hK K)
   refine zaL ?_;intro w77 e77 hF;have ho77:w77.ownsRow w4_.heap.size 38 2 v77 (1+rest.length) ([I 0,I x]++zbh rest):=hF 77;have SZ7:Hid (g < w4_.heap.size):=by unfold Hid; exact (HO.o.lt g rfl).2
   have HV7:=zhd ho77;clear hF c19 g5 hz0 hz1 hz2 ho77;replace zbr:=zbx zbr e77;replace H:=zhd (H.o.ext e77);replace HCS:=zrx HCS e77;replace HRW:=zrx HRW e77;replace Q1:=zrx Q1 e77;replace Q2:=zrx Q2 e77;replace Q3:=zrx Q3 e77;replace HO:=zhd (zaw HO.o e77);replace EW:=zhd (EW.o.trans e77);clear e77;show wpList _ _ _ [_] _ _
   obtain ⟨cur,hgb,hbb,hcsz,htk,hncap,hmax⟩:=zgD HO.o;have hnl:i < mk.clients.length:=HLT.o;obtain ⟨sa7,sc7,rfl⟩:=zam (Row.of_owns HV7.o);refine zcH rfl 47 (.tmp 79) (.tmp 77) rfl g (i * 6+5) rfl [.slice sa7 (1+rest.length) sc7] rfl hgb (by rw [hcsz]; simp only [List.length_cons,List.length_nil]; omega) (by kernel_rfl) (zb9 rfl) _ rfl (fun w5_ M5=>?_);have hO2:=ze8 hbb hcsz htk hncap hmax M5.o (by simp only [List.length_cons,List.length_nil]; omega)
   have hset:(css.set i [.slice ka1 ol.length kc1,I oat,.bool osent,I ogen,.slice kx1 xl.length ky1,.slice sa7 (1+rest.length) sc7]).flatten=css.flatten.take (i * 6+5)++[.slice sa7 (1+rest.length) sc7]++css.flatten.drop (i * 6+5+1):=by
    have q:=zfU HCS.o.o.sizes HC0.o (j:=5) (by decide) (.slice sa7 (1+rest.length) sc7);have q2:i * 6+5 < css.flatten.length:=by rw [HO.o.1]; omega
    have q3:css.flatten.set (i * 6+5) (.slice sa7 (1+rest.length) sc7)=css.flatten.take (i * 6+5)++.slice sa7 (1+rest.length) sc7::css.flatten.drop (i * 6+5+1):=by rw [List.set_eq_take_append_cons_drop,if_pos q2]
    refine (show _=_ from q).trans (q3.trans ?_);rw [List.append_assoc];rfl
   rw [show [Value.slice sa7 (1+rest.length) sc7].length=1 from rfl,<- hset] at hO2;replace HO:=zhd hO2;replace HV7:=zhd (M5.o.owns HV7.o (fun e=>by have q:=(HV7.o.lt g e).1; have q2:=SZ7.o; omega));clear hO2 hgb hbb hcsz htk hncap hmax hset hnl;clear HRW;have HG3:Hid (zaq 2 zdA w5_ (.slice sa7 (1+rest.length) sc7) (⟨0,x⟩::rest)):=(zbz (f:=fun (x:Rp)=>[I x.err,I x.n]) (fun _=>rfl)).2 (by have q:=Row.of_owns HV7.o; rw [Nat.add_comm 1] at q ⊢; exact q);replace HCS:=zhd (M5.o.rd HCS.o N_g.o);replace Q1:=zhd (M5.o.rd Q1.o N_g.o);replace Q2:=zhd (M5.o.rd Q2.o N_g.o);have HCL:Hid (Rd (fun _=>True) (fun w=>zaq 6 zdw w (.slice (some ⟨g,0,none⟩) mk.clients.length cap) (mk.clients.set i ⟨ol,oat,osent,ogen,xl,⟨0,x⟩::rest⟩)) w5_):=zep (fun _ _ _=>trivial) (Rd.setE (HCS.o.widen fun _ _ _=>trivial) (zc8 (c:=⟨ol,oat,osent,ogen,xl,⟨0,x⟩::rest⟩) (Q1.o.widen fun _ _ _=>trivial) (Q2.o.widen fun _ _ _=>trivial) (zn6 zn1 HG3.o)) rfl i) HO.o (by decide);have HLK1:=zhd (zmY (r:=⟨0,x⟩) HLK.o HC.o rfl);have HNT:=zhd (zng GD.o HC.o rfl HNE.o);go_wp2_with (with_reducible refine zT ?_)
   replace zbr:=zhd (M5.o.old zbr.o (Nat.ne_of_lt znn.o));refine zai rfl 43 (.tmp 11) rfl b11 rfl zbr zbf za2 (fun v140 H_v140=>?_);go_wp2_with fail
   rw [show _=Value.agg (zaO ({ mk with clients:=mk.clients.set i ⟨ol,oat,osent,ogen,xl,⟨0,x⟩::rest⟩ }) (.slice ca mk.store.cells.length cc) (.slice ua mk.store.undo.length uc) (.slice aa mk.store.answers.length ac) (.slice pa mk.store.past.length pc) (.slice xa mk.server.box.length xc) (.slice la mk.server.plan.length lc) (.slice (some ⟨g,0,none⟩) mk.clients.length cap)).toArray from H_v140.o];clear H_v140;replace H:=zHw M5 H N_g;refine (HWO.o ({ mk with clients:=mk.clients.set i ⟨ol,oat,osent,ogen,xl,⟨0,x⟩::rest⟩ }) _ _ _ _ _ _ _ w5_ (fun _=>True) ⟨(H.o.widen (B:=fun _=>True) fun _ _ _=>trivial).cells,(H.o.widen (B:=fun _=>True) fun _ _ _=>trivial).undo,(H.o.widen (B:=fun _=>True) fun _ _ _=>trivial).answers,(H.o.widen (B:=fun _=>True) fun _ _ _=>trivial).past,(H.o.widen (B:=fun _=>True) fun _ _ _=>trivial).box,(H.o.widen (B:=fun _=>True) fun _ _ _=>trivial).plan,HCL.o⟩ HLK1.o).to fun r wz ez hr=>?_;obtain ⟨b,rfl,hb⟩:=hr
   obtain rfl:b=false:=by
    cases b
    ·rfl
    ·exact absurd (hb.1 rfl) (HNT.o)
   clear hb;replace Q3:=zrx (zhd (M5.o.rd Q3.o N_g.o)) ez;replace EW:=zhd ((zhd (M5.o.ext EW.o O_g.o)).o.trans ez);replace zbr:=zbx zbr ez;replace H:=zhd (H.o.ext ez);replace HCS:=zrx HCS ez;replace Q1:=zrx Q1 ez;replace Q2:=zrx Q2 ez;clear ez;go_wp2
   go_ret
   exact ⟨rfl,EW.o⟩
 by_cases hk1:kind=1
 case pos =>
  subst hk1;go_wp2_with (with_reducible refine zT ?_)
  clear hk0;refine zcz rfl 30 (.tmp 82) rfl b11 0 rfl zbr [.slice ca mk.store.cells.length cc,.slice ua mk.store.undo.length uc,.slice aa mk.store.answers.length ac,.slice pa mk.store.past.length pc] rfl zdh zhU (fun v83 H_v83=>?_);go_wp2_with fail
  rw [H_v83.o];clear H_v83;obtain ⟨U,HU⟩:∃ X:Nat->Prop,Hid (∀ k,X k↔(P1 k∨w2_.heap.size<=k)):=⟨_,fun _=>Iff.rfl⟩;replace H:=zhd (H.o.widen (B:=U) fun k _ h=>(HU.o k).2 (.inl h));replace zbZ:Hid (¬ U b11):=zoD HU zbZ zbr;refine (zeb _ _ _ _ mk.store w2_ U (zcW H.o.cells H.o.undo H.o.answers H.o.past) GD.o.cells).to fun r w9 e9 hr=>?_;obtain ⟨cs,rfl,hcs⟩:=zdU hr;obtain ⟨c',u',a',p',rfl,r1,r2,r3,r4⟩:=zd4 hcs;have hin:∀ k,(U k∨w2_.heap.size<=k)->U k:=fun k h=>(HU.o k).2 (by rcases h with h | h; exact (HU.o k).1 h; exact .inr h);have R1:=zhd (r1.widen fun k _ h=>hin k h);have R2:=zhd (r2.widen fun k _ h=>hin k h);have R3:=zhd (r3.widen fun k _ h=>hin k h);have R4:=zhd (r4.widen fun k _ h=>hin k h);obtain ⟨ca1,cc1,rfl⟩:=zam r1.o;obtain ⟨ua1,uc1,rfl⟩:=zam r2.o;obtain ⟨aa1,ac1,rfl⟩:=zac r3.o;obtain ⟨pa1,pc1,rfl⟩:=zac r4.o;have HC11:Hid ((zaK mk.store).cells.length=11):=by unfold Hid; simp only [zaK]; rw [zbe]; exact HLK.o.cells
  obtain ⟨S,hS⟩:∃ s,zaK mk.store=s:=⟨_,rfl⟩;have HLC:=zhd (zlz HLK.o x);have HNC:Hid (∀ y,(zaK mk.store).cells.getD 0 0≠0->(zaK mk.store).cells.getD 2 0≠y->¬ zd6 { mk with store:={ zaK mk.store with cells:=(zaK mk.store).cells.set 2 y } }):=fun y h0 hx=>zm3 GD.o h0 hx;rw [hS] at R1 R2 R3 R4 HC11 HLC HNC;simp only [hS];clear hr hcs r1 r2 r3 r4 hS hin;replace zbr:=zbx zbr e9;replace H:=zhd (H.o.ext e9);replace EW:=zhd (EW.o.trans e9);clear e9;go_wp2_with (with_reducible refine zT ?_)
  refine zap rfl 30 (.tmp 85) (.tmp 84) rfl b11 0 rfl [.slice ca1 S.cells.length cc1,.slice ua1 S.undo.length uc1,.slice aa1 S.answers.length ac1,.slice pa1 S.past.length pc1] (rfl) zbr rfl zhU rfl [.slice ca1 S.cells.length cc1,.slice ua1 S.undo.length uc1,.slice aa1 S.answers.length ac1,.slice pa1 S.past.length pc1,I mk.server.gen,.slice xa mk.server.box.length xc,.bool mk.server.busy,I mk.server.now.client,I mk.server.now.token,I mk.server.now.call.kind,I mk.server.now.call.name,I mk.server.now.call.other,I mk.server.now.call.n,.slice la mk.server.plan.length lc,I mk.server.says.err,I mk.server.says.n,.bool mk.up,I mk.pause,I mk.falls,.slice ka mk.clients.length kc] rfl (fun w3_ M3=>?_);replace zbr:=zwb M3;replace R1:=zwr M3 R1 zbZ;obtain ⟨_,_,e1,hcap,hmx,hat⟩:=zbo.form R1.o.o;simp only [Value.slice.injEq,true_and] at e1;obtain ⟨rfl,rfl⟩:=e1;obtain ⟨cb,co,rfl,z0⟩:=hat 0 (by rw [HC11.o]; decide);obtain ⟨_,_,e1,z2⟩:=hat 2 (by rw [HC11.o]; decide);cases e1
  rw [Nat.add_zero] at z0;have HCAP:=zhd (And.intro hcap hmx);have hl0:(0:Int) < (S.cells.length:Int):=by rw [HC11.o]; decide
  have hl2:(2:Int) < (S.cells.length:Int):=by rw [HC11.o]; decide
  obtain ⟨q0,hq0⟩:∃ q,S.cells.getD 0 0=q:=⟨_,rfl⟩;obtain ⟨q2,hq2⟩:∃ q,S.cells.getD 2 0=q:=⟨_,rfl⟩;rw [hq0] at z0;rw [hq2] at z2;have HQ0:=zhd hq0;have HQ2:=zhd hq2;clear hat hcap hmx hq0 hq2;have x0:=zaa (i:=0) zbr.o rfl;replace H:=zHw M3 H zbZ;replace R2:=zwr M3 R2 zbZ;replace R3:=zwr M3 R3 zbZ;replace R4:=zwr M3 R4 zbZ;replace EW:=zwe M3 EW zi6;by_cases hz:q0=0
  case pos =>
   subst hz;go_wp2
   go_ret
   exact ⟨rfl,EW.o⟩
  have hzb:(q0 == 0)=false:=by simpa using hz
  by_cases hx2:q2=x
  case pos =>
   subst hx2;go_wp2
   go_ret
   exact ⟨rfl,EW.o⟩
  have hxb:(q2 == x)=false:=by simpa using hx2
  have HNT:=zhd (HNC.o x (by rw [HQ0.o]; exact hz) (by rw [HQ2.o]; exact hx2));clear HNC;go_wp2_with (with_reducible refine zT ?_)
  unfold Hid;clear x0 z0 z2 hzb hxb hl0 hl2 hz hx2;refine zbQ rfl 3 0 #[] (by kernel_rfl) (fun b3 w4_ M4=>?_);have zmy:=zld zbr M4;obtain ⟨U1,HU1⟩:=zEx U b3;have zbw:=zNn HU1;have zev:=zOn M4 EW;have zaA:=zmb M4;replace zbr:=zmo M4 zbr;have c0:=zaa (i:=0) zbr.o rfl;go_wp2_with (first | (at_builtin; refine zbl ?_) | (with_reducible refine zT ?_))
  unfold Hid;clear c0;obtain ⟨i0,hi,hz0,hz1,hz2⟩:=info_parts Try.infoIntQ;have hfull:zb5 b3 3 1 0 [] (.slice (some ⟨b3,0,none⟩) 0 0) w4_:=⟨b3,rfl,zbC M4.o (Nat.le_refl _) rfl (by decide)⟩;replace R1:=zme M4 (zmd HU1 M4 R1);refine zcQ rfl (.tmp 101) (.tmp 104) 25 rfl b3 3 i0 (I 0) 1 8 zj8 hi hz0 hz1 hz2 rfl (by decide) _ 0 [] rfl hfull (.slice (some ⟨cb,co,none⟩) S.cells.length cc1) rfl S.cells.length (S.cells.map I) R1.o.o (fun u hu=>by obtain ⟨x,_,rfl⟩:=List.mem_map.1 hu; rfl) (by rw [HC11.o]; decide) (by decide) (by have:=M4.o.size; omega) ?_;intro v105 w105 ho5 e5;simp only [Nat.zero_add,List.nil_append] at ho5;clear hfull hi hz0 hz1 hz2
  obtain ⟨g,cap,rfl⟩:∃ g cap,v105=.slice (some ⟨g,0,none⟩) S.cells.length cap:=by
   rcases ho5.2 with ⟨_,e1⟩ | ⟨g,cap,cur,e1,_⟩
   ·have q:=HC11.o; omega
   ·exact ⟨g,cap,e1⟩
  have hbg:b3<=g:=(ho5.lt g rfl).1;obtain ⟨U11,HU11⟩:=zEx U1 g;have hnar:∀ k,k < w4_.heap.size->U1 k->U11 k:=fun k hk h=>(HU11.o k).2 ⟨h,by have q2:=M4.o.size; have q3:=((HU1.o k).1 h).2; omega⟩;replace zbZ:=znw HU1 zbZ;replace zbZ:Hid (¬ U11 b11):=fun h=>zbZ.o ((HU11.o _).1 h).1;replace zbw:Hid (¬ U11 b3):=fun h=>zbw.o ((HU11.o _).1 h).1;have N_g:=zNn HU11;replace H:=zhd ((zhd ((zMD HU1 M4 H).o.ext M4.o.ext)).o.widen (B:=U11) hnar);replace R2:=zhd ((zme M4 (zmd HU1 M4 R2)).o.widen (B:=U11) hnar);replace R3:=zhd ((zme M4 (zmd HU1 M4 R3)).o.widen (B:=U11) hnar);replace R4:=zhd ((zme M4 (zmd HU1 M4 R4)).o.widen (B:=U11) hnar);replace R1:=zhd (R1.o.widen (B:=U11) hnar);clear hnar;have O_g:Hid (w.heap.size<=g):=by unfold Hid; have q:=zev.o; omega
  have HO:=zhd ho5;have HBG:=zhd hbg;replace EW:=zhd ((zet EW M4).o.trans e5);replace zbr:=zbx zbr e5;replace zaA:=zbx zaA e5;replace H:=zhd (H.o.ext e5);replace R1:=zrx R1 e5;replace R2:=zrx R2 e5;replace R3:=zrx R3 e5;replace R4:=zrx R4 e5;clear ho5 hbg e5;have znn:Hid (b11 < g):=Nat.lt_of_lt_of_le zmy.o HBG.o;clear zaA;go_wp2_with (with_reducible refine zT ?_)
  refine zap rfl 25 (.tmp 107) (.tmp 105) rfl b11 0 rfl [.slice (some ⟨g,0,none⟩) S.cells.length cap] (rfl) zbr rfl zow rfl [.slice (some ⟨g,0,none⟩) S.cells.length cap,.slice ua1 S.undo.length uc1,.slice aa1 S.answers.length ac1,.slice pa1 S.past.length pc1,I mk.server.gen,.slice xa mk.server.box.length xc,.bool mk.server.busy,I mk.server.now.client,I mk.server.now.token,I mk.server.now.call.kind,I mk.server.now.call.name,I mk.server.now.call.other,I mk.server.now.call.n,.slice la mk.server.plan.length lc,I mk.server.says.err,I mk.server.says.n,.bool mk.up,I mk.pause,I mk.falls,.slice ka mk.clients.length kc] rfl (fun w5_ M5=>?_);replace zbr:=zwb M5;have c0:=zaa (i:=0) zbr.o rfl;replace HO:=zhd (M5.o.owns HO.o (zeq znn.o));have f0:=HO.o.frozenAt 2;have hl2:(2:Int) < (S.cells.length:Int):=by rw [HC11.o]; decide
  have hl2n:2 < S.cells.length:=by rw [HC11.o]; decide
  go_wp2_with (with_reducible refine zT ?_)
  unfold Hid;clear c0 f0 hl2 hl2n;obtain ⟨cur,hgb,hbb,hcsz,htk,hncap,hmax⟩:=zgD HO.o;have hnl:2 < S.cells.length:=by rw [HC11.o]; decide
  refine zcH rfl 3 (.tmp 112) (.tmp 111) rfl g 2 rfl [I x] rfl hgb (by rw [hcsz]; simp only [List.length_cons,List.length_nil]; omega) (by kernel_rfl) (zb9 rfl) _ rfl (fun w6_ M6=>?_);have hO2:=ze8 hbb hcsz htk hncap hmax M6.o (by simp only [List.length_cons,List.length_nil]; omega)
  have hset:(S.cells.set 2 x).map I=(S.cells.map I).take 2++[I x]++(S.cells.map I).drop (2+1):=by
   have q2:2 < (S.cells.map I).length:=by rw [List.length_map]; exact hnl
   rw [List.map_set,List.set_eq_take_append_cons_drop,if_pos q2];simp
  rw [show [I x].length=1 from rfl,<- hset] at hO2;replace HO:=zhd hO2;clear hO2 hgb hbb hcsz htk hncap hmax hset hnl
  have HCI:Hid (Rd (fun _=>True) (fun w=>zbo w (.slice (some ⟨g,0,none⟩) S.cells.length cap) (S.cells.set 2 x)) w6_):=by
   have q:zbo w6_ (.slice (some ⟨g,0,none⟩) S.cells.length cap) (S.cells.set 2 x):=by
    have q:=Row.of_owns HO.o;unfold zbo;rw [List.length_set];exact q
   exact Rd.widen (Rd.of (zi9 _ _ _ _) q) (fun _ _ _=>trivial)
  go_wp2_with (with_reducible refine zT ?_)
  replace zbr:=zhd (M6.o.old zbr.o (Nat.ne_of_lt znn.o));refine zai rfl 43 (.tmp 11) rfl b11 rfl zbr zbf za2 (fun v140 H_v140=>?_);go_wp2_with fail
  rw [show _=Value.agg (zaO ({ mk with store:={ S with cells:=S.cells.set 2 x } }) (.slice (some ⟨g,0,none⟩) S.cells.length cap) (.slice ua1 S.undo.length uc1) (.slice aa1 S.answers.length ac1) (.slice pa1 S.past.length pc1) (.slice xa mk.server.box.length xc) (.slice la mk.server.plan.length lc) (.slice ka mk.clients.length kc)).toArray from H_v140.o];clear H_v140;replace H:=zHw M6 (zHw M5 H zbZ) N_g;replace R2:=zhd (M6.o.rd (zwr M5 R2 zbZ).o N_g.o);replace R3:=zhd (M6.o.rd (zwr M5 R3 zbZ).o N_g.o);replace R4:=zhd (M6.o.rd (zwr M5 R4 zbZ).o N_g.o);refine (HWO.o ({ mk with store:={ S with cells:=S.cells.set 2 x } }) _ _ _ _ _ _ _ w6_ (fun _=>True) ⟨HCI.o,R2.o.widen (fun _ _ _=>trivial),R3.o.widen (fun _ _ _=>trivial),R4.o.widen (fun _ _ _=>trivial),(H.o.widen (B:=fun _=>True) fun _ _ _=>trivial).box,(H.o.widen (B:=fun _=>True) fun _ _ _=>trivial).plan,(H.o.widen (B:=fun _=>True) fun _ _ _=>trivial).clients⟩ HLC.o).to fun r wz ez hr=>?_;obtain ⟨b,rfl,hb⟩:=hr
  obtain rfl:b=false:=by
   cases b
   ·rfl
   ·exact absurd (hb.1 rfl) (HNT.o)
  clear hb;replace R1:=zrx (zhd (M6.o.rd (zwr M5 R1 zbZ).o N_g.o)) ez;replace EW:=zhd ((zhd (M6.o.ext (zwe M5 EW zi6).o O_g.o)).o.trans ez);replace zbr:=zbx zbr ez;replace H:=zhd (H.o.ext ez);replace R2:=zrx R2 ez;replace R3:=zrx R3 ez;replace R4:=zrx R4 ez;clear ez;go_wp2
  go_ret
  exact ⟨rfl,EW.o⟩
 by_cases hk2:kind=2
 case pos =>
  subst hk2;by_cases hn0:n < 0
  case pos =>
   have hb:=decide_eq_true hn0;go_wp2
   go_ret
   exact ⟨rfl,EW.o⟩
  obtain ⟨j,rfl⟩:∃ i:Nat,n=(i:Int):=⟨n.toNat,by omega⟩;clear hn0;have hb1:decide ((j:Int) < 0)=false:=decide_eq_false (by omega);have x3:=zaa (i:=3) zbr.o rfl;by_cases hlt:j < mk.store.past.length
  case neg =>
   have hb2:decide ((mk.store.past.length:Int)<=(j:Int))=true:=decide_eq_true (by omega);have hb3:decide (mk.store.past.length<=j)=true:=decide_eq_true (by omega);go_wp2
   go_ret
   exact ⟨rfl,EW.o⟩
  have hb2:decide ((mk.store.past.length:Int)<=(j:Int))=false:=decide_eq_false (by omega);have hb3:decide (mk.store.past.length<=j)=false:=decide_eq_false (by omega);obtain ⟨rq,hrq⟩:∃ r,mk.store.past[j]?=some r:=⟨mk.store.past[j],List.getElem?_eq_getElem hlt⟩;obtain ⟨_,_,e1,_,_,hf⟩:=zf2 H.o.past.o;simp only [Value.slice.injEq,true_and] at e1;obtain ⟨rfl,rfl⟩:=e1;obtain ⟨pb,po,rfl,d0,d1,d2,d3,d4,d5⟩:=hf j _ hrq;have HRQ:=zhd hrq
  have HPL:Hid (mk.store.past.length<=900):=by
   have q:=GD.o.size.past;unfold Hid;omega
  have HPA:=zhd (zbI.1 H.o.past.o);have hi1:(j:Int) < (mk.store.past.length:Int):=by omega
  have hi0:(0:Int)<=(j:Int):=by omega
  obtain ⟨i1,hi,hy0,hy1,hy2⟩:=info_parts Try.infoRequestQ;have HI1:=zhd hi;clear hf hrq hlt hi;go_wp2_with fail
  clear hb1 hb2 hb3 hk0 hk1;refine zbK 12 [some (.inr (zb5 w2_.heap.size 35 6 0 [])),none,none,none,some (.inr fun v wx=>wx.ownsRow w2_.heap.size 35 6 v (0+mk.store.past.length) ([]++zaN mk.store.past)),none,none,none,none,none,none,some (.inr fun v wx=>Row wx 6 v 1 (zaN [rq]))] (fun v wx=>wx.ownsRow w2_.heap.size 35 6 v (0+mk.store.past.length+1) ([]++zaN mk.store.past++zaN [rq])) (by kernel_rfl) (by kernel_rfl) (by kernel_rfl) ?_ (fun v=>zbA _ _ _ _ _ v) ?_
  ·exact ⟨zdP _ _ _ _ _,trivial,trivial,trivial,zbA _ _ _ _ _,trivial,trivial,trivial,trivial,trivial,trivial,fun _ _ _ he h=>Row.ext h he,trivial⟩
  refine za0 _ rfl (fun w' hw' hk=>?_) (fun v125=>?_)
  ·have hsz:=hw'.size;clear hk;unfold zaI;go_simp
   exact ⟨(Ext.refl _).alloc _,zdR #[] 0 hsz (by decide) rfl⟩
  refine zae fun K h=>?_; go_simp; refine h _ ?_; clear h K;iterate 2 (refine zaj (fun K hK=>?_); go_simp; first | refine hK _ ?_ | refine ⟨(fun h=>by cases h),hK _ ?_⟩; clear hK K)
  refine zax (.slice (some ⟨pb,po,none⟩) mk.store.past.length pc) rfl (fun w' hw'=>by have q0:=hw'.cell x3; go_simp) ?_;refine zae fun K h=>?_; go_simp; refine h _ ?_; clear h K;refine za0 _ rfl (fun w' hw' hk=>?_) (fun v129=>?_)
  ·have h125:zb5 w2_.heap.size 35 6 0 [] v125 w':=hk 125 (by decide);obtain ⟨vv,ww,hrun,hoo,hee⟩:=zbv (P:=Try.prog) w' w2_.heap.size 28 28 35 i1 _ 6 48 zgO HI1.o hy0 hy1 hy2 rfl (by decide) v125 0 _ h125 (.slice (some ⟨pb,po,none⟩) mk.store.past.length pc) mk.store.past.length _ (HPA.o.ext hw') (zcT _) (by have q:=HPL.o; omega) (by decide) hw'.size;exact zcc rfl rfl rfl hrun hee hoo
  refine zae fun K h=>?_; go_simp; refine h _ ?_; clear h K;iterate 2 (refine zaj (fun K hK=>?_); go_simp; first | refine hK _ ?_ | refine ⟨(fun h=>by cases h),hK _ ?_⟩; clear hK K)
  refine zax (.slice (some ⟨pb,po,none⟩) mk.store.past.length pc) rfl (fun w' hw'=>by have q0:=hw'.cell x3; go_simp) ?_;refine zae fun K h=>?_; go_simp; refine h _ ?_; clear h K;iterate 2 (refine zaj (fun K hK=>?_); go_simp; first | refine hK _ ?_ | refine ⟨(fun h=>by cases h),hK _ ?_⟩; clear hK K)
  refine zax (.agg #[I rq.client,I rq.token,I rq.call.kind,I rq.call.name,I rq.call.other,I rq.call.n]) rfl (fun w' hw'=>by have q0:=hw'.cell d0; have q1:=hw'.cell d1; have q2:=hw'.cell d2; have q3:=hw'.cell d3; have q4:=hw'.cell d4; have q5:=hw'.cell d5; go_simp) ?_;refine zae fun K h=>?_; go_simp; refine h _ ?_; clear h K;refine za0 _ rfl (fun w' hw' hk=>?_) (fun v136=>?_)
  ·have hsz:=hw'.size;clear hk;unfold zaI;go_simp
   exact ⟨(Ext.refl _).alloc _,Row.of_owns (World.ownsRow_lit (base:=0) (size:=6) w' _ 1 (Nat.zero_le _) (by decide) rfl)⟩
  refine zae fun K h=>?_; go_simp; refine h _ ?_; clear h K;refine zaL ⟨_,_,rfl,rfl,rfl,fun w' hw' hk=>?_,fun v137 w5 e5 ho5=>?_⟩
  ·have h129:w'.ownsRow w2_.heap.size 35 6 v129 (0+mk.store.past.length) ([]++zaN mk.store.past):=hk 129 (by decide);have h136:Row w' 6 v136 1 (zaN [rq]):=hk 136 (by decide);obtain ⟨vv,ww,hrun,hoo,hgg⟩:=zbt (P:=Try.prog) w' w2_.heap.size 28 28 35 i1 _ 6 48 zgO HI1.o hy0 hy1 hy2 rfl (by decide) v129 _ _ h129 v136 1 _ h136 (zcT _) (by have q:=HPL.o; omega) (by decide) hw'.size;exact ⟨vv,ww,zcJ rfl rfl rfl hrun,hw'.grown hgg (fun j hj=>(h129.lt j hj).1),hoo⟩
  clear d0 d1 d2 d3 d4 d5 x3 hi1 hi0 hy0 hy1 hy2 HPA;have hro:Rd (fun k=>w2_.heap.size<=k) (fun w=>zaq 6 zes w v137 (mk.store.past++[rq])) w5:=zg3 (by simpa [zeg] using ho5);obtain ⟨pa2,pc2,hps⟩:=zac hro.o;rw [show (mk.store.past++[rq]).length=mk.store.past.length+1 by simp] at hps;subst hps;obtain ⟨U,HU⟩:∃ X:Nat->Prop,Hid (∀ k,X k↔(P1 k∨w2_.heap.size<=k)):=⟨_,fun _=>Iff.rfl⟩;replace H:=zhd (H.o.widen (B:=U) fun k _ h=>(HU.o k).2 (.inl h));replace zbZ:Hid (¬ U b11):=zoD HU zbZ zbr;have HRO:=zhd (hro.widen (B:=U) fun k _ h=>(HU.o k).2 (.inr h));replace zbr:=zbx zbr e5;replace H:=zhd (H.o.ext e5);replace EW:=zhd (EW.o.trans e5);clear hro ho5 e5;show wpList _ _ _ (List.drop 13 _) _ _
  show wpList _ _ _ [_,_,_] _ _
  go_wp2_with (with_reducible refine zT ?_)
  refine zap rfl 28 (.tmp 139) (.tmp 137) rfl b11 3 rfl [.slice pa2 (mk.store.past.length+1) pc2] (rfl) zbr rfl zoC rfl [.slice ca mk.store.cells.length cc,.slice ua mk.store.undo.length uc,.slice aa mk.store.answers.length ac,.slice pa2 (mk.store.past.length+1) pc2,I mk.server.gen,.slice xa mk.server.box.length xc,.bool mk.server.busy,I mk.server.now.client,I mk.server.now.token,I mk.server.now.call.kind,I mk.server.now.call.name,I mk.server.now.call.other,I mk.server.now.call.n,.slice la mk.server.plan.length lc,I mk.server.says.err,I mk.server.says.n,.bool mk.up,I mk.pause,I mk.falls,.slice ka mk.clients.length kc] rfl (fun w3_ M3=>?_);replace zbr:=zwb M3;have HLK1:=zhd (zlK HLK.o HPL.o (List.mem_of_getElem? HRQ.o));have HNT:=zhd (zmk GD.o HRQ.o);go_wp2_with (with_reducible refine zT ?_)
  refine zai rfl 43 (.tmp 11) rfl b11 rfl zbr zbf za2 (fun v140 H_v140=>?_);go_wp2_with fail
  rw [show _=Value.agg (zaO ({ mk with store:={ mk.store with past:=mk.store.past++[rq] } }) (.slice ca mk.store.cells.length cc) (.slice ua mk.store.undo.length uc) (.slice aa mk.store.answers.length ac) (.slice pa2 (mk.store.past.length+1) pc2) (.slice xa mk.server.box.length xc) (.slice la mk.server.plan.length lc) (.slice ka mk.clients.length kc)).toArray from H_v140.o];clear H_v140;replace H:=zHw M3 H zbZ;replace HRO:=zwr M3 HRO zbZ;refine (HWO.o ({ mk with store:={ mk.store with past:=mk.store.past++[rq] } }) _ _ _ _ _ _ _ w3_ (fun _=>True) ⟨(H.o.widen (B:=fun _=>True) fun _ _ _=>trivial).cells,(H.o.widen (B:=fun _=>True) fun _ _ _=>trivial).undo,(H.o.widen (B:=fun _=>True) fun _ _ _=>trivial).answers,HRO.o.widen (fun _ _ _=>trivial),(H.o.widen (B:=fun _=>True) fun _ _ _=>trivial).box,(H.o.widen (B:=fun _=>True) fun _ _ _=>trivial).plan,(H.o.widen (B:=fun _=>True) fun _ _ _=>trivial).clients⟩ HLK1.o).to fun r wz ez hr=>?_;obtain ⟨b,rfl,hb⟩:=hr
  obtain rfl:b=false:=by
   cases b
   ·rfl
   ·exact absurd (hb.1 rfl) (HNT.o)
  clear hb;replace EW:=zhd ((zwe M3 EW zi6).o.trans ez);replace zbr:=zbx zbr ez;replace H:=zhd (H.o.ext ez);replace HRO:=zrx HRO ez;clear ez;go_wp2
  go_ret
  exact ⟨rfl,EW.o⟩
 have hb0:(kind == 0)=false:=by simpa using hk0
 have hb1:(kind == 1)=false:=by simpa using hk1
 have hb2:(kind == 2)=false:=by simpa using hk2
 go_wp2
 go_ret
 exact ⟨rfl,EW.o⟩

end Go.Proofs.Ytdmipnnfoolelaf

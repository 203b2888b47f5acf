/- Texts of the proof, merged: N9 V2 V3 G1 G2 S8 S9 G3 N15 S5 N18 G4 N10. -/
import Derived.Test.YtdmipnnfoolelafKTM
import Derived.Test.YtdmipnnfoolelafKTN
import Derived.Test.YtdmipnnfoolelafKTP
import Derived.Test.YtdmipnnfoolelafKTU
import Derived.Test.YtdmipnnfoolelafKTF
import Derived.Test.YtdmipnnfoolelafKTE
import Derived.Test.YtdmipnnfoolelafKTA
import Derived.Test.YtdmipnnfoolelafKTG
import Derived.Test.YtdmipnnfoolelafKTI
import Derived.Test.YtdmipnnfoolelafKTK
import Derived.Test.YtdmipnnfoolelafKTH
set_option maxHeartbeats 2000000
set_option maxRecDepth 100000

namespace Go.Proofs.Ytdmipnnfoolelaf
open Go.RowKit Go.Mk

abbrev znN (c:Cn) (calls box got:Value):List Value:=[calls,I c.at_,.bool c.sent,I c.gen,box,got]
abbrev znc (v:Sv) (box plan:Value):List Value:=[I v.gen,box,.bool v.busy,I v.now.client,I v.now.token,I v.now.call.kind,I v.now.call.name,I v.now.call.other,I v.now.call.n,plan,I v.says.err,I v.says.n]

theorem zea (c:Cn) (calls box got:Value) (me gen2:Int) (up:Bool) (w:World) (A:Nat->Prop)
  (hc:Rd A (fun w=>zaq 4 zfa w calls c.calls) w) (hb:Rd A (fun w=>zaq 1 zcV w box c.box) w) (hg:Rd A (fun w=>zaq 2 zdA w got c.got) w) (h0:0<=c.at_) (h1:c.at_<=1000000) (hgl:c.got.length<=1000) :
  zaU Try.prog 33 #[.agg (znN c calls box got).toArray,I me,I gen2,.bool up] w A (fun r w'=>zlT zdw (zdW c me gen2 up).1 (zdW c me gen2 up).2.1 (zdW c me gen2 up).2.2 r w'):=by
 obtain ⟨cl,at_,sent,gen,bl,gl⟩:=c
 cases bl with
 | nil=>exact zgA cl at_ sent gen gl calls box got me gen2 up w A hc hb hg h0
 | cons b l=>exact zgn cl at_ sent gen b l gl calls box got me gen2 up w A hc hb hg h0 h1 hgl

theorem zhq (s:St) (v:Sv) (c u a p box plan:Value) (w:World) (A:Nat->Prop) (hs:Rd A (fun w=>zcm w [c,u,a,p] s) w) (hb:Rd A (fun w=>zaq 1 zcV w box v.box) w) (hp:Rd A (fun w=>zan w plan v.plan) w)
  (h1:s.cells.length * 8<=140737488355328) (h2:(1+s.undo.length) * 16<=140737488355328) (h3:s.answers.length<=1000) (h4:s.past.length<=1000000) (hw:v.busy=false->zfy s.cells) :
  zaU Try.prog 36 #[.agg #[c,u,a,p],.agg (znc v box plan).toArray] w A (fun r w'=>ziK (zaM s v).1 (zaM s v).2.1 (zaM s v).2.2.1 (zaM s v).2.2.2 r w'):=by
 obtain ⟨sc,su,sa,sp⟩:=s
 obtain ⟨gen,bl,busy,⟨nc,nt,⟨nk,na,no,nn⟩⟩,pl,⟨se,sn⟩⟩:=v
 cases busy with
 | true =>
  cases pl with
  | nil=>exact zhS sc su sa sp gen bl nc nt nk na no nn se sn c u a p box plan w A hs hb hp h3 h4
  | cons q l=>exact zhB sc su sa sp gen bl nc nt nk na no nn se sn q.1 q.2 l c u a p box plan w A hs hb hp h1 h2
 | false =>
  cases bl with
  | nil=>exact zhM sc su sa sp gen nc nt nk na no nn se sn pl c u a p box plan w A hs hb hp
  | cons b l=>exact zhV sc su sa sp gen nc nt nk na no nn se sn b l pl c u a p box plan w A hs hb hp (hw rfl)

open Go.RowKit Go.Mk

structure OwnSv (base:Nat) (w:World) (box plan:Value) (v:Sv):Prop where
 box:zdT base w box v.box
 plan:w.ownsRow base 74 2 plan v.plan.length (zat v.plan)
theorem OwnSv.ext {base:Nat} {w w':World} {box plan:Value} {v:Sv} (h:OwnSv base w box plan v) (he:Ext w w'):OwnSv base w' box plan v:=⟨h.box.ext he,zaw h.plan he⟩
theorem OwnSv.low {base b2:Nat} {w:World} {box plan:Value} {v:Sv} (h:OwnSv base w box plan v) (hb:b2<=base):OwnSv b2 w box plan v:=⟨h.box.low hb,zby h.plan hb⟩
theorem zdT.slice {base:Nat} {w:World} {u:Value} {bl:List (List UInt8)} (h:zdT base w u bl):∃ ao cap,u=.slice ao bl.length cap:=by
 obtain ⟨evs,h1,_⟩:=h
 exact zcj h1

def zn2 (v:Sv):Prop:=v.box.length<=1000/\(∀ b ∈ v.box,b.length<=140737488355328)/\v.plan.length<=1000

open Go.RowKit Go.Mk

theorem OwnSv.rd {base:Nat} {w:World} {box plan:Value} {v:Sv} {B:Nat->Prop} (h:OwnSv base w box plan v) (hB:∀ g,base<=g->(∀ cs t,w.heap[g]?=some (.cells cs t (0,0))->t=79∨t=5∨t=74)->B g) :
  Rd B (fun w=>zaq 1 zcV w box v.box) w/\Rd B (fun w=>zan w plan v.plan) w:=by
 refine ⟨h.box.rd fun g hg ht=>hB g hg fun cs t hc=>?_,zdO h.plan fun g hg=>hB g (h.plan.lt g hg).1 fun cs t hc=>?_⟩
 ·rcases ht cs t hc with e | e
  ·exact .inl e
  ·exact .inr (.inl e)
 ·by_cases hne:(74:Nat)=t
  ·exact .inr (.inr hne.symm)
  ·exact absurd hg (zfb h.plan hc hne)
theorem zdT.snoc {base:Nat} {w:World} {u ev:Value} {bl:List (List UInt8)} {b:List UInt8} {evs:List Value} (h:∀ (i:Nat) (b:List UInt8),bl[i]?=some b->∃ ev,evs[i]?=some ev/\w.ownsRow base 5 1 ev b.length (b.map U)) (hl:evs.length=bl.length) (hu:w.ownsRow base 79 1 u (bl.length+1) (evs++[ev])) (he:w.ownsRow base 5 1 ev b.length (b.map U)):zdT base w u (bl++[b]):=by
 refine ⟨evs++[ev],by rw [List.length_append]; exact hu,fun i x hx=>?_⟩
 by_cases hi:i < bl.length
 ·rw [List.getElem?_append_left hi] at hx
  obtain ⟨e2,h3,h4⟩:=h i x hx
  exact ⟨e2,by rw [List.getElem?_append_left (by omega)]; exact h3,h4⟩
 ·rw [List.getElem?_append_right (by omega)] at hx
  have h0:i - bl.length=0:=by
   have:=(List.getElem?_eq_some_iff.1 hx).1
   simp at this
   omega
  rw [h0] at hx
  simp at hx
  subst hx
  exact ⟨ev,by rw [List.getElem?_append_right (by omega),show i - evs.length=0 by omega]; rfl,he⟩
theorem zdT.list {base:Nat} {w:World} {u:Value} {bl:List (List UInt8)} (h:zdT base w u bl):∃ evs:List Value,evs.length=bl.length/\w.ownsRow base 79 1 u bl.length evs/\∀ (i:Nat) (b:List UInt8),bl[i]?=some b->∃ ev,evs[i]?=some ev/\w.ownsRow base 5 1 ev b.length (b.map U):=by
 obtain ⟨evs,h1,h2⟩:=h
 exact ⟨evs,by have:=h1.1; simpa using this,h1,h2⟩
open Go.RowKit Go.Mk

def zmW (c:Cn):Prop:=c.calls.length<=1000000/\c.box.length<=1000000/\(∀ b ∈ c.box,b.length<=140737488355328)/\c.got.length<=1000000

open Go.RowKit Go.Mk

def zkf (m:Mc):Prop:=zk4 m.store/\zn2 m.server/\m.clients.length<=1000/\∀ c ∈ m.clients,zmW c
structure OwnP (m:Mc) (c u a p box plan:Value) (css:List (List Value)) (w:World):Prop where
 st:zcm w [c,u,a,p] m.store
 box:zaq 1 zcV w box m.server.box
 plan:zan w plan m.server.plan
 each:zcR 6 zdw w css m.clients
theorem znK {B:Nat->Prop} {w:World} {m:Mc} {c u a p box plan:Value} {g n:Nat} {css:List (List Value)} (h:Rd B (OwnP m c u a p box plan css) w) (row:w.ownsRow g 61 6 (.slice (some ⟨g,0,none⟩) n n) n css.flatten) (hn:m.clients.length=n):RdM (fun k=>B k∨k=g) w m c u a p box plan (.slice (some ⟨g,0,none⟩) n n):=by
 have h:=h.widen (B:=fun k=>B k∨k=g) fun k _ hk=>.inl hk
 have q:=h.imp fun _ h=>zdB.1 h.st
 have hr:Rd (fun k=>B k∨k=g) (fun w=>Row w 6 (.slice (some ⟨g,0,none⟩) n n) n css.flatten) w:=zdO row fun k hk=>.inr (by simpa [Value.ownBlock] using hk.symm)
 subst hn
 exact ⟨q.left,q.right.left,q.right.right.left,q.right.right.right,h.imp fun _ h=>h.box,h.imp fun _ h=>h.plan,(h.and hr).imp fun _ h=>⟨css,h.1.each,h.2⟩⟩
structure OwnMc (s:Nat) (B:Nat->Prop) (w:World) (m:Mc) (c u a p box plan:Value) (g:Nat) (css:List (List Value)):Prop where
 lo:∀ k,B k->s<=k
 at_:s<=g
 off:¬ B g
 rd:Rd B (OwnP m c u a p box plan css) w
 row:w.ownsRow g 61 6 (.slice (some ⟨g,0,none⟩) m.clients.length m.clients.length) m.clients.length css.flatten
theorem OwnMc.mc {s:Nat} {B:Nat->Prop} {w:World} {m:Mc} {c u a p box plan:Value} {g:Nat} {css:List (List Value)} (h:OwnMc s B w m c u a p box plan g css):RdM (fun k=>s<=k) w m c u a p box plan (.slice (some ⟨g,0,none⟩) m.clients.length m.clients.length):=(znK h.rd h.row rfl).widen fun k _ hk=>by
 rcases hk with hk | rfl
 ·exact h.lo k hk
 ·exact h.at_

open Go.RowKit Go.Mk

open Go.RowKit Go.Mk

theorem zmS (c u a p:Value) (s:St) (w:World) (h:zcm w [c,u,a,p] s) (hs:zk4 s) :
  zaU Try.prog 27 #[.agg #[c,u,a,p]] w (fun _=>False) (fun r w'=>Agg zcm (zaK s) r w'):=by
 unfold zaU;have HS:=zhd hs;clear hs;have HE:=zhd h;clear h;have e0:Ext w ((w.alloc (.cells #[c,u,a,p] 30)).alloc (.cells zT4 30)):=((Ext.refl w).alloc _).alloc _;have HB:=zhd (fun wx (h:Ext ((w.alloc (.cells #[c,u,a,p] 30)).alloc (.cells zT4 30)) wx)=>zci h);have hsz:((w.alloc (.cells #[c,u,a,p] 30)).alloc (.cells zT4 30)).heap.size=w.heap.size+2:=by simp
 have HSZ:=zhd hsz;clear hsz;go_enter Try.func27,Try.ntmps27
 go_wp2_with fail
 generalize hw0:(w.alloc (.cells #[c,u,a,p] 30)).alloc (.cells zT4 30)=w0 at *;clear hw0;refine (zno c u a p s w0 (zkT _ _ _ _ e0 HE.o) HS.o).to fun r w1 e1 hr=>?_;obtain ⟨c',u',a',p',rfl,ho⟩:=hr;obtain ⟨ka,kc,hk0⟩:=zcj ho.cells;obtain ⟨la,lc,hk1⟩:=zcj ho.undo
 obtain ⟨ma,mc,hk2⟩:=zcj ho.answers;obtain ⟨na,nc,hk3⟩:=zcj ho.past;subst hk0 hk1 hk2 hk3;have hle:=e1.size;have hz0:=HSZ.o;obtain ⟨A,hA⟩:∃ A:Nat->Prop,∀ k,A k↔(w.heap.size+2<=k/\k≠w1.heap.size):=⟨_,fun _=>Iff.rfl⟩;have HA:=zhd hA;clear hA;have k1:=(zfj ho.cells).widen (B:=A) (fun k hk h=>(HA.o k).2 ⟨by omega,by omega⟩);have k2:=(zgw ho.undo).widen (B:=A) (fun k hk h=>(HA.o k).2 ⟨by omega,by omega⟩);have k3:=(zfp ho.answers).widen (B:=A) (fun k hk h=>(HA.o k).2 ⟨by omega,by omega⟩);have k4:=(zg3 ho.past).widen (B:=A) (fun k hk h=>(HA.o k).2 ⟨by omega,by omega⟩);clear ho;have ng:¬ A w1.heap.size:=fun h=>((HA.o _).1 h).2 rfl;have n1:¬ A (w.heap.size+1):=fun h=>by have:=((HA.o _).1 h).1; omega
 have ea:=(Ext.refl w1).alloc (.cells #[(.slice ka s.cells.length kc),(.slice la s.undo.length lc),(.slice ma s.answers.length mc),(.slice na s.past.length nc)] 30);replace k1:=k1.ext ea;replace k2:=k2.ext ea;replace k3:=k3.ext ea;replace k4:=k4.ext ea;have b3:=heap_alloc_new w1 (.cells #[(.slice ka s.cells.length kc),(.slice la s.undo.length lc),(.slice ma s.answers.length mc),(.slice na s.past.length nc)] 30);have hs2:(w1.alloc (.cells #[(.slice ka s.cells.length kc),(.slice la s.undo.length lc),(.slice ma s.answers.length mc),(.slice na s.past.length nc)] 30)).heap.size=w1.heap.size+1:=by simp
 have ew:=(e0.trans e1).alloc (.cells #[(.slice ka s.cells.length kc),(.slice la s.undo.length lc),(.slice ma s.answers.length mc),(.slice na s.past.length nc)] 30);have b1:=HB.o _ (e1.alloc (.cells #[(.slice ka s.cells.length kc),(.slice la s.undo.length lc),(.slice ma s.answers.length mc),(.slice na s.past.length nc)] 30));have K1:=zhd k1;have K2:=zhd k2;have K3:=zhd k3;have K4:=zhd k4;have B3:=zhd b3;have B1:=zhd b1;have HS2:=zhd hs2;have EW:=zhd ew;have HLE:=zhd hle;have HZ0:=zhd hz0;clear k1 k2 k3 k4 b3 b1 hs2 ew ea hle hz0;go_wp2_with fail
 refine (zna _ _ s.cells s.undo _ K1.o.o K2.o.o (by have:=HS.o.1; omega) (by have:=HS.o.2.1; omega)).to fun r w3 e3 ⟨n3,ho3⟩=>?_;have hle:=HLE.o;have hz0:=HZ0.o;have hs2:=HS2.o;have k5:=(zfj ho3).widen (B:=A) (fun k hk h=>(HA.o k).2 (by simp at h; omega));obtain ⟨ra,rc,hrs⟩:=zcj ho3;subst hrs;have d3:=zc9 B3.o e3;have d1:=zc9 B1.o e3;have ew:=EW.o.trans e3;have K5:=zhd k5;have K6:=zhd (K3.o.ext e3);have K7:=zhd (K4.o.ext e3);have hn1:¬ (w1.heap.size=w.heap.size+1):=by omega
 have hn2:¬ (w.heap.size+1=w1.heap.size):=by omega
 clear k5 ho3 hle hz0 hs2 e3 K1 K2 K3 K4;obtain ⟨x0,x1,x2,x3,f0,f1,f2,f3⟩:=zdo d3;obtain ⟨y0,y1,y2,y3,g0,g1,g2,g3⟩:=zdo d1;go_wp2_with fail
 clear x0 x1 x2 x3 f0 f1 f2 f3 y0 y1 y2 y3 g0 g1 g2 g3;have d2:=set4 (zcZ (i:=1) (x:=.slice none 0 0) (zcZ (i:=0) (x:=.slice ra n3 rc) d1 hn2) hn2) (.slice ra n3 rc) (.slice none 0 0) (.slice ma s.answers.length mc) (.slice na s.past.length nc);obtain ⟨q0,q1,q2,q3,-⟩:=zdo d2;have hle:=HLE.o;have hz0:=HZ0.o;have m2:=zc5 ((ew.setCell (p:=⟨w1.heap.size,0,none⟩) (by show w.heap.size<=w1.heap.size; omega) (.slice ra n3 rc)).setCell (p:=⟨w1.heap.size,1,none⟩) (by show w.heap.size<=w1.heap.size; omega) (.slice none 0 0)) (b:=w.heap.size+1) (by omega) (.slice ra n3 rc) (.slice none 0 0) (.slice ma s.answers.length mc) (.slice na s.past.length nc);refine bodyPost_ret (by simp [results,Try.results27,go_sem,q0,q1,q2,q3]; rfl) rfl ?_;refine ⟨_,rfl,m2,Rd.widen (A:=A) (zdm (zcW (s:=zaK s) ?_ ?_ ?_ ?_)) (fun k _ h=>.inr (by have:=((HA.o k).1 h).1; omega))⟩
 ·exact ((K5.o.set ng _ _).set ng _ _).set4 n1 _ _ _ _
 ·exact Rd.all fun w=>zbJ w
 ·exact ((K6.o.set ng _ _).set ng _ _).set4 n1 _ _ _ _
 ·exact ((K7.o.set ng _ _).set ng _ _).set4 n1 _ _ _ _

open Go.RowKit Go.Mk

open Go.RowKit Go.Mk

open Go.RowKit Go.Mk

theorem zf2 {w:World} {v:Value} {l:List Rq} (h:zaq 6 zes w v l):∃ ao cap,v=.slice ao l.length cap/\l.length<=cap/\cap<=maxLen /\
  ∀ k r,l[k]?=some r->∃ b off,ao=some ⟨b,off,none⟩/\w.cell? ⟨b,off+k * 6,none⟩=some (I r.client)/\w.cell? ⟨b,off+k * 6+1,none⟩=some (I r.token)/\w.cell? ⟨b,off+k * 6+2,none⟩=some (I r.call.kind) /\
   w.cell? ⟨b,off+k * 6+3,none⟩=some (I r.call.name)/\w.cell? ⟨b,off+k * 6+4,none⟩=some (I r.call.other)/\w.cell? ⟨b,off+k * 6+5,none⟩=some (I r.call.n):=(zbI.1 h).form

open Go.RowKit Go.Mk

theorem zdu {w:World} {v:Value} {l:List Rp} (h:zaq 2 zdA w v l):∃ ao cap,v=.slice ao l.length cap/\l.length<=cap/\cap<=maxLen /\
  ∀ k x,l[k]?=some x->∃ b off,ao=some ⟨b,off,none⟩/\w.cell? ⟨b,off+k * 2,none⟩=some (I x.err)/\w.cell? ⟨b,off+k * 2+1,none⟩=some (I x.n):=by
 obtain ⟨ao,cap,h1,h2,h3,-,h5⟩:=h.form (by decide)
 refine ⟨ao,cap,h1,h2,h3,fun k x hx=>?_⟩
 obtain ⟨b,off,c,e,-,hc,hcell⟩:=h5 k x hx
 have hc:c=[I x.err,I x.n]:=hc
 subst hc
 exact ⟨b,off,e,hcell 0 _ rfl,by rw [Nat.add_assoc]; exact hcell 1 _ rfl⟩
theorem zom (u v:Value) (xs:List Rp) (w:World) (hu:zaq 2 zdA w u xs) (hv:zaq 2 zdA w v xs) :
  Calls Try.prog 10 #[u,v] w fun e w'=>e=.returned (.bool true)/\Ext w w':=by
 obtain ⟨ua,uc,rfl,u1,u2,u3⟩:=zdu hu;obtain ⟨va,vc,rfl,v1,v2,v3⟩:=zdu hv;unfold maxLen at u2 v2;have U3:=zhd u3;have V3:=zhd v3;clear u3 v3 hu hv;have hst:Try.prog.stoodInHeld 38=false:=by kernel_rfl
 have hgd:Try.prog.eqGuardType Try.prog.depth 38=false:=by kernel_rfl
 go_enter Try.func10,Try.ntmps10
 go_wp2
 go_loopw [13] (fun i wr=>∃ k:Nat,k<=xs.length/\i=I k/\Ext w wr) (fun i _=>xs.length - (intOf i).toNat)
 case atStart=>exact ⟨0,by omega,rfl,Ext.refl _⟩
 case round =>
  obtain ⟨k,hk,rfl,he⟩:=hrel;by_cases hlt:k < xs.length
  ·obtain ⟨x,hx⟩:∃ x,xs[k]?=some x:=⟨xs[k],List.getElem?_eq_getElem hlt⟩;obtain ⟨b,off,rfl,c0,c1⟩:=U3.o k x hx;obtain ⟨b',off',rfl,d0,d1⟩:=V3.o k x hx;clear hx;obtain ⟨xe,xn⟩:=x;replace c0:=he.cell c0;replace d0:=he.cell d0;replace c1:=he.cell c1;replace d1:=he.cell d1;go_wp2_with fail
   refine zaR [none,none,none,none,none,none,none,none,none] (by kernel_rfl) (by kernel_rfl) ?_ ?_
   ·exact ⟨trivial,trivial,trivial,trivial,trivial,trivial,trivial,trivial,trivial,trivial⟩
   iterate 3 (refine zaj (fun K hK=>?_); go_simp; first | refine hK _ ?_ | refine ⟨(fun h=>by cases h),hK _ ?_⟩; clear hK K)
   refine zax (.agg #[I xe,I xn]) rfl (fun w' hw'=>by have q0:=hw'.cell c0; have q1:=hw'.cell c1; go_simp) ?_;refine zae fun K h=>?_; go_simp; refine h _ ?_; clear h K;iterate 3 (refine zaj (fun K hK=>?_); go_simp; first | refine hK _ ?_ | refine ⟨(fun h=>by cases h),hK _ ?_⟩; clear hK K)
   refine zax (.agg #[I xe,I xn]) rfl (fun w' hw'=>by have q0:=hw'.cell d0; have q1:=hw'.cell d1; go_simp) ?_;refine zae fun K h=>?_; go_simp; refine h _ ?_; clear h K;(refine zaj (fun K hK=>?_); go_simp; first | refine hK _ ?_ | refine ⟨(fun h=>by cases h),hK _ ?_⟩; clear hK K)
   refine zaL ?_;intro wn hen _;clear c0 c1 d0 d1;go_wp2
   go_roundw
   case rel=>exact ⟨k+1,by omega,by go_num,he.trans hen⟩
   case measure=>simp [intOf]; omega
  ·go_wp2
   go_ret
   exact ⟨rfl,he⟩

theorem zjH {w:World} {v:Value} {l:List Cl} (h:zaq 4 zfa w v l):∃ ao cap,v=.slice ao l.length cap/\l.length<=cap/\cap<=maxLen /\
  ∀ k x,l[k]?=some x->∃ b off,ao=some ⟨b,off,none⟩/\w.cell? ⟨b,off+k * 4,none⟩=some (I x.kind)/\w.cell? ⟨b,off+k * 4+1,none⟩=some (I x.name)/\w.cell? ⟨b,off+k * 4+2,none⟩=some (I x.other)/\w.cell? ⟨b,off+k * 4+3,none⟩=some (I x.n):=by
 obtain ⟨ao,cap,h1,h2,h3,-,h5⟩:=h.form (by decide)
 refine ⟨ao,cap,h1,h2,h3,fun k x hx=>?_⟩
 obtain ⟨b,off,c,e,-,hc,hcell⟩:=h5 k x hx
 have hc:c=[I x.kind,I x.name,I x.other,I x.n]:=hc
 subst hc
 exact ⟨b,off,e,hcell 0 _ rfl,by rw [Nat.add_assoc]; exact hcell 1 _ rfl,by rw [Nat.add_assoc]; exact hcell 2 _ rfl,by rw [Nat.add_assoc]; exact hcell 3 _ rfl⟩
theorem zhr {w:World} {v:Value} {l:List Cn} (h:zaq 6 zdw w v l):∃ ao cap,v=.slice ao l.length cap/\l.length<=cap/\cap<=maxLen /\
  ∀ k x,l[k]?=some x->∃ b off x1 x2 x3,ao=some ⟨b,off,none⟩/\w.cell? ⟨b,off+k * 6,none⟩=some x1/\w.cell? ⟨b,off+k * 6+1,none⟩=some (I x.at_)/\w.cell? ⟨b,off+k * 6+2,none⟩=some (.bool x.sent)/\w.cell? ⟨b,off+k * 6+3,none⟩=some (I x.gen) /\
   w.cell? ⟨b,off+k * 6+4,none⟩=some x2/\w.cell? ⟨b,off+k * 6+5,none⟩=some x3/\zdw w [x1,I x.at_,.bool x.sent,I x.gen,x2,x3] x:=by
 obtain ⟨ao,cap,h1,h2,h3,-,h5⟩:=h.form (by decide)
 refine ⟨ao,cap,h1,h2,h3,fun k x hx=>?_⟩
 obtain ⟨b,off,c,e,-,hc,hcell⟩:=h5 k x hx
 obtain ⟨x1,x2,x3,rfl,hc'⟩:=hc
 exact ⟨b,off,x1,x2,x3,e,hcell 0 _ rfl,by rw [Nat.add_assoc]; exact hcell 1 _ rfl,by rw [Nat.add_assoc]; exact hcell 2 _ rfl,by rw [Nat.add_assoc]; exact hcell 3 _ rfl,by rw [Nat.add_assoc]; exact hcell 4 _ rfl,by rw [Nat.add_assoc]; exact hcell 5 _ rfl,x1,x2,x3,rfl,hc'⟩

open Go.RowKit Go.Mk

theorem zim {l:List (List Cl)} (hl:zbm l) {m:Mc} {ks:List Nat} {bz:Option Nat} (h:MInv l m ks bz) {k:Nat} (hs:SizeM m k) (hk:k<=1000):zkf m:=by
 have h1:=h.cells
 have h2:=hs.undo
 have h3:=hs.answers
 have h4:=hs.past
 have h5:=hs.box
 refine ⟨⟨by omega,by omega,by omega,by omega⟩,⟨by omega,fun b hb=>?_,?_⟩,by rw [h.nc]; have:=hl.1; omega,fun c hc=>?_⟩
 ·rw [h.box] at hb
  obtain ⟨k,_,rfl⟩:=List.mem_map.1 hb
  exact Nat.le_trans (Nat.le_of_eq rfl) (by decide:(10:Nat)<=140737488355328)
 ·cases hz:bz with
  | none=>rw [h.idle hz]; exact Nat.zero_le _
  | some i=>have:=(h.work i hz).2.2.2.2; omega
 ·obtain ⟨i,hi⟩:=List.mem_iff_getElem?.1 hc
  have hci:=h.clients i c hi
  have h6:=hs.each c hc
  refine ⟨?_,by omega,fun b hb=>?_,by omega⟩
  ·rw [hci.calls,List.getD_eq_getElem?_getD]
   cases e:l[i]? with
   | none=>simp
   | some x=>have:=(hl.2 x (List.mem_of_getElem? e)).1; simp; omega
  ·cases hci.phase with
   | rest _ _ _ e _=>rw [e] at hb; cases hb
   | wait _ _ _ _ e _=>rw [e] at hb; cases hb
   | work _ _ _ _ e _ _=>rw [e] at hb; cases hb
   | lost _ _ _ e _ _=>rw [e] at hb; cases hb
   | hear _ _ _ _ e =>
    rw [e] at hb
    rw [List.mem_singleton.1 hb]
    exact Nat.le_trans (Nat.le_of_eq rfl) (by decide:(8:Nat)<=140737488355328)

structure Gd (l:List (List Cl)) (m:Mc) (k:Nat):Prop where
 right:zbm l
 inv:∃ ks bz,MInv l m ks bz
 size:SizeM m k
theorem ziP {l:List (List Cl)} (hl:zbm l) (steps:List (Int×Int)):Gd l (zdc (newMc l) (steps.take 400)) 400 :=
 ⟨hl,zkU hl _,(zie (zi7 l) (steps.take 400)).mono (by rw [List.length_take]; omega)⟩
section
variable {l:List (List Cl)} {m:Mc} {k:Nat}
theorem Gd.small (h:Gd l m k) (hk:k<=1000):zkf m:=by
 obtain ⟨h1,⟨ks,bz,h2⟩,h3⟩:=h
 exact zim h1 h2 h3 hk
theorem Gd.falls (h:Gd l m k):0<=m.falls/\m.falls<=6:=by
 obtain ⟨_,⟨ks,bz,h2⟩,_⟩:=h
 exact h2.falls
theorem Gd.cells (h:Gd l m k):m.store.cells.length * 8<=140737488355328:=by
 obtain ⟨_,⟨ks,bz,h2⟩,_⟩:=h
 have:=h2.cells
 omega
theorem Gd.down (h:Gd l m k) (hu:m.up=false):1<=m.pause/\m.pause<=1000000:=by
 obtain ⟨_,⟨ks,bz,h2⟩,_⟩:=h
 have:=h2.down hu
 omega
theorem Gd.pause (h:Gd l m k):0<=m.pause/\m.pause<=1000000:=by
 obtain ⟨_,⟨ks,bz,h2⟩,_⟩:=h
 cases hu:m.up with
 | true=>have:=h2.upp hu; omega
 | false=>have:=h2.down hu; omega
theorem Gd.gen (h:Gd l m k):0<=m.server.gen/\m.server.gen<=1000000:=by
 obtain ⟨_,⟨ks,bz,h2⟩,_⟩:=h
 obtain ⟨g1,g2,g3⟩:=h2.gens
 have hf:=h2.falls
 cases hu:m.up with
 | true=>have:=g2 hu; omega
 | false=>have:=g3 hu; omega
end

def zov (m:Mc) (r:Value) (w:World):Prop:=∃ c u a p box plan cl,r=.agg (zaO m c u a p box plan cl).toArray/\RdM (fun _=>True) w m c u a p box plan cl
theorem zov.ext {m:Mc} {r:Value} {w w':World} (h:zov m r w) (he:Ext w w'):zov m r w':=by
 obtain ⟨c,u,a,p,box,plan,cl,e,h⟩:=h
 exact ⟨c,u,a,p,box,plan,cl,e,h.ext he⟩
def zmR (s:St) (r:Value) (w:World):Prop:=∃ c u a p,r=.agg #[c,u,a,p]/\zcm w [c,u,a,p] s
theorem zmR.ext {s:St} {r:Value} {w w':World} (h:zmR s r w) (he:Ext w w'):zmR s r w':=by
 obtain ⟨c,u,a,p,e,h⟩:=h
 exact ⟨c,u,a,p,e,zkT _ _ _ _ he h⟩
theorem zk6 {P:Program} {f:FuncId} {args:Array Value} {w:World} {A:Nat->Prop} {s:St} (h:zaU P f args w A (fun r w'=>Agg zcm s r w')):zba P f args w (zmR s):=Calls.mono h fun _ w' ⟨r,he,hx,ht⟩=>⟨r,he,hx,by
 obtain ⟨cs,rfl,hcs⟩:=zdU ht
 obtain ⟨c,u,a,p,rfl,_⟩:=zd4 hcs
 exact ⟨c,u,a,p,rfl,hcs.o⟩⟩

theorem zdG {P:Program} {ops:Array Oper} {rest:List Oper} {o:Oper} {a:Act} {w:World} {Q:Exit->Act->World->Prop} (hw:Region.wanted o (yielded ops a.tmps)=true) (ty:TypeId) (x:Operand) (ho:o.op=.load ty x) (b off:Nat) (hx:a.eval x=.pointer (some ⟨b,off,none⟩)) {cs:Array Value} {t:TypeId} (hg:Hid (w.heap[b]?=some (.cells cs t (0,0))))
  (vs:List Value) (hsub:(cs.toList.drop off).take vs.length=vs) {fs:Array Field} (hu:P.underlying ty=some (.struct fs)) (hi:(P.info? ty).map (·.size)=some vs.length)
  (h:∀ v,Hid (v=.agg vs.toArray)->wpList P ops Q rest (a.put o.dst v) w):wpList P ops Q (o::rest) a w:=by
 refine wpList_step fun K hK=>?_
 rw [if_pos hw]
 unfold Oper.wp
 rw [zbG ty x ho b off hx hg.o vs hsub hu hi,Oper.upon_value]
 exact hK _ _ (h _ rfl)

theorem zoD {w:World} {B C:Nat->Prop} {b:Nat} {x:Obj} (h:Hid (∀ k,C k↔(B k∨w.heap.size<=k))) (n:Hid (¬ B b)) (hb:Hid (w.heap[b]?=some x)):Hid (¬ C b):=fun q=>by
 rcases (h.o _).1 q with q | q
 ·exact n.o q
 ·have:=(Array.getElem?_eq_some_iff.1 hb.o).1
  omega

open Go.RowKit Go.Mk

theorem zkk (m:Mc) (c u a p box plan cl:Value) (kind:Int) (n:Int) (w:World) (A:Nat->Prop) (h:RdM A w m c u a p box plan cl) (h1:kind≠1) (h2:kind≠2) (h3:kind≠3) (h4:kind≠4) :
  zaU Try.prog 20 #[.agg (zaO m c u a p box plan cl).toArray,.agg #[I kind,I n]] w A (fun r w'=>zhc zec (doM m kind n).1 (doM m kind n).2 r w'):=by
 unfold zaU;obtain ⟨ca,cc,ua,uc,aa,ac,pa,pc,xa,xc,la,lc,ka,kc,rfl,rfl,rfl,rfl,rfl,rfl,rfl⟩:=h.slices;obtain ⟨⟨sc,su,sa,sp⟩,⟨gen,bl,busy,⟨nc,nt,⟨nk,na,no,nn⟩⟩,pl,⟨se,sn⟩⟩,up,pause,falls,cls⟩:=m;simp only [zaO] at *;have EW:=zhd (Ext.refl w);obtain ⟨B,hB⟩:=zei A w.heap.size 3;have HK:=zhd hB;clear hB;have H:=zhd (h.widen HK.o.1);clear h
 have hX:doM ⟨⟨sc,su,sa,sp⟩,⟨gen,bl,busy,⟨nc,nt,⟨nk,na,no,nn⟩⟩,pl,⟨se,sn⟩⟩,up,pause,falls,cls⟩ kind n=(⟨⟨sc,su,sa,sp⟩,⟨gen,bl,busy,⟨nc,nt,⟨nk,na,no,nn⟩⟩,pl,⟨se,sn⟩⟩,up,pause,falls,cls⟩,1):=by
  unfold doM;rw [if_neg h1,if_neg h2,if_neg h3,if_neg h4]
 rw [hX];have e1:(kind == 1)=false:=by simpa using h1
 have e2:(kind == 2)=false:=by simpa using h2
 have e3:(kind == 3)=false:=by simpa using h3
 have e4:(kind == 4)=false:=by simpa using h4
 clear hX h1 h2 h3 h4;go_enter Try.func20,Try.ntmps20
 go_wp2_with (with_reducible refine zT ?_)
 refine zal rfl 43 (.tmp 0) rfl #[.slice ca sc.length cc,.slice ua su.length uc,.slice aa sa.length ac,.slice pa sp.length pc,I gen,.slice xa bl.length xc,.bool busy,I nc,I nt,I nk,I na,I no,I nn,.slice la pl.length lc,I se,I sn,.bool up,I pause,I falls,.slice ka cls.length kc] rfl (fun b0 w1_ M1=>?_);have zab:=zmb M1;go_wp2_with (with_reducible refine zT ?_)
 refine zal rfl 66 (.tmp 1) rfl #[I kind,I n] rfl (fun b1 w2_ M2=>?_);have zad:=zmb M2;go_wp2_with (with_reducible refine zT ?_)
 refine zah rfl 43 zM (by kernel_rfl) (fun b2 w3_ M3=>?_);replace zab:=zmo M2 zab;have zas:=zmb M3;have za3:=zA0 M1;have za7:=zA1 za3 M1 M2;have zbV:=zA1 za7 M2 M3;have zaP:=znb HK zbV (by decide);have zbU:=zob zbV;replace zad:=zmo M3 zad;have k0:=zaa (i:=0) zad.o rfl;go_wp2_with (with_reducible refine zT ?_)
 clear k0;replace zab:=zmo M3 zab;refine zai rfl 43 (.tmp 2) rfl b0 rfl zab zbf za2 (fun v132 H_v132=>?_);go_wp2_with (with_reducible refine zT ?_)
 refine zaf rfl 43 (.tmp 4) (.tmp 132) rfl b2 rfl _ (zcv H_v132) zas rfl za2 rfl (fun w4_ M4=>?_);replace zas:=zwb M4;go_wp2
 have z0:=zay (P:=Try.prog) 43 zas.o zbf (by kernel_rfl);refine bodyPost_ret (by simp [results,Try.results20,asAddr,z0]; rfl) rfl ?_;replace H:=zHw M4 (zhd ((zhd ((zhd (H.o.ext M1.o.ext)).o.ext M2.o.ext)).o.ext M3.o.ext)) zaP;replace EW:=zwe M4 (zet (zet (zet EW M1) M2) M3) zbU;exact ⟨_,rfl,EW.o,Rd.widen (A:=B) (zbO (RdM.mc (m:=⟨⟨sc,su,sa,sp⟩,⟨gen,bl,busy,⟨nc,nt,⟨nk,na,no,nn⟩⟩,pl,⟨se,sn⟩⟩,up,pause,falls,cls⟩) H.o)) (fun k _ h=>HK.o.2.2.2 k h)⟩

theorem zkC (m:Mc) (c u a p box plan cl:Value) (n:Int) (w:World) (A:Nat->Prop) (h:RdM A w m c u a p box plan cl) (hf:0<=m.falls) :
  zaU Try.prog 20 #[.agg (zaO m c u a p box plan cl).toArray,.agg #[I 3,I n]] w A (fun r w'=>zhc zec (doM m 3 n).1 (doM m 3 n).2 r w'):=by
 unfold zaU;obtain ⟨ca,cc,ua,uc,aa,ac,pa,pc,xa,xc,la,lc,ka,kc,rfl,rfl,rfl,rfl,rfl,rfl,rfl⟩:=h.slices;obtain ⟨⟨sc,su,sa,sp⟩,⟨gen,bl,busy,⟨nc,nt,⟨nk,na,no,nn⟩⟩,pl,⟨se,sn⟩⟩,up,pause,falls,cls⟩:=m;simp only [zaO] at *;have EW:=zhd (Ext.refl w);obtain ⟨B,hB⟩:=zei A w.heap.size 3;have HK:=zhd hB;clear hB;have H:=zhd (h.widen HK.o.1);clear h;obtain ⟨FX,FE,hFM⟩:∃ x y,ze6 ⟨⟨sc,su,sa,sp⟩,⟨gen,bl,busy,⟨nc,nt,⟨nk,na,no,nn⟩⟩,pl,⟨se,sn⟩⟩,up,pause,falls,cls⟩=(x,y):=⟨_,_,rfl⟩;have hX:doM ⟨⟨sc,su,sa,sp⟩,⟨gen,bl,busy,⟨nc,nt,⟨nk,na,no,nn⟩⟩,pl,⟨se,sn⟩⟩,up,pause,falls,cls⟩ 3 n=ze6 ⟨⟨sc,su,sa,sp⟩,⟨gen,bl,busy,⟨nc,nt,⟨nk,na,no,nn⟩⟩,pl,⟨se,sn⟩⟩,up,pause,falls,cls⟩:=rfl;rw [hX,hFM];have HFM:=zhd hFM;clear hX hFM;go_enter Try.func20,Try.ntmps20
 go_wp2_with (with_reducible refine zT ?_)
 refine zal rfl 43 (.tmp 0) rfl #[.slice ca sc.length cc,.slice ua su.length uc,.slice aa sa.length ac,.slice pa sp.length pc,I gen,.slice xa bl.length xc,.bool busy,I nc,I nt,I nk,I na,I no,I nn,.slice la pl.length lc,I se,I sn,.bool up,I pause,I falls,.slice ka cls.length kc] rfl (fun b0 w1_ M1=>?_);have zab:=zmb M1;go_wp2_with (with_reducible refine zT ?_)
 refine zal rfl 66 (.tmp 1) rfl #[I 3,I n] rfl (fun b1 w2_ M2=>?_);have zad:=zmb M2;go_wp2_with (with_reducible refine zT ?_)
 refine zah rfl 43 zM (by kernel_rfl) (fun b2 w3_ M3=>?_);replace zab:=zmo M2 zab;have zas:=zmb M3;have za3:=zA0 M1;have za7:=zA1 za3 M1 M2;have zbV:=zA1 za7 M2 M3;have zaP:=znb HK zbV (by decide);have zbU:=zob zbV;replace zad:=zmo M3 zad;have k0:=zaa (i:=0) zad.o rfl;go_wp2_with (with_reducible refine zT ?_)
 clear k0;replace zab:=zmo M3 zab;refine zai rfl 43 (.tmp 2) rfl b0 rfl zab zbf za2 (fun v124 H_v124=>?_);go_wp2_with fail
 rw [show _=Value.agg #[.slice ca sc.length cc,.slice ua su.length uc,.slice aa sa.length ac,.slice pa sp.length pc,I gen,.slice xa bl.length xc,.bool busy,I nc,I nt,I nk,I na,I no,I nn,.slice la pl.length lc,I se,I sn,.bool up,I pause,I falls,.slice ka cls.length kc] from H_v124.o];replace H:=zhd ((zhd ((zhd (H.o.ext M1.o.ext)).o.ext M2.o.ext)).o.ext M3.o.ext);refine (zhG ⟨⟨sc,su,sa,sp⟩,⟨gen,bl,busy,⟨nc,nt,⟨nk,na,no,nn⟩⟩,pl,⟨se,sn⟩⟩,up,pause,falls,cls⟩ _ _ _ _ _ _ _ w3_ B H.o hf).to fun r w9 e9 hr=>?_;rw [HFM.o] at hr;obtain ⟨cs,rfl,hcs⟩:=ziT hr;obtain ⟨c',u',a',p',box',plan',cl',rfl,hm⟩:=zeT hcs;obtain ⟨ca',cc',ua',uc',aa',ac',pa',pc',xa',xc',la',lc',ka',kc',rfl,rfl,rfl,rfl,rfl,rfl,rfl⟩:=hm.slices;have hsz:w.heap.size+3<=w3_.heap.size:=by have q:=(zlt zas); have q2:=zbV.o; omega
 have HM:=zhd (hm.widen (B:=B) (fun k _ h=>by
  rcases h with h | h
  ·exact h
  ·exact HK.o.2.1 k (by omega)))
 clear hr hcs hm hsz;go_wp2_with (with_reducible refine zT ?_)
 replace zas:=zbx zas e9;refine zaf rfl 43 (.tmp 4) (.tmp 126) rfl b2 rfl [.slice ca' (FX).store.cells.length cc',.slice ua' (FX).store.undo.length uc',.slice aa' (FX).store.answers.length ac',.slice pa' (FX).store.past.length pc',I (FX).server.gen,.slice xa' (FX).server.box.length xc',.bool (FX).server.busy,I (FX).server.now.client,I (FX).server.now.token,I (FX).server.now.call.kind,I (FX).server.now.call.name,I (FX).server.now.call.other,I (FX).server.now.call.n,.slice la' (FX).server.plan.length lc',I (FX).server.says.err,I (FX).server.says.n,.bool (FX).up,I (FX).pause,I (FX).falls,.slice ka' (FX).clients.length kc'] (rfl) zas rfl za2 rfl (fun w4_ M4=>?_);replace zas:=zwb M4;go_wp2
 have z0:=zay (P:=Try.prog) 43 zas.o zbf (by kernel_rfl);refine bodyPost_ret (by simp [results,Try.results20,asAddr,z0]; rfl) rfl ?_;replace EW:=zwe M4 (zhd ((zet (zet (zet EW M1) M2) M3).o.trans e9)) zbU;replace HM:=zHw M4 HM zaP;exact ⟨_,rfl,EW.o,Rd.widen (A:=B) (zbO (RdM.mc (m:=FX) HM.o)) (fun k _ h=>HK.o.2.2.2 k h)⟩

theorem zkB (m:Mc) (c u a p box plan cl:Value) (n:Int) (w:World) (A:Nat->Prop) (h:RdM A w m c u a p box plan cl) (hr:m.store.cells.length * 8<=140737488355328) (hg:0<=m.server.gen/\m.server.gen<=1000000) (hpz:0<=m.pause/\m.pause<=1000000) :
  zaU Try.prog 20 #[.agg (zaO m c u a p box plan cl).toArray,.agg #[I 4,I n]] w A (fun r w'=>zhc zec (doM m 4 n).1 (doM m 4 n).2 r w'):=by
 unfold zaU;obtain ⟨ca,cc,ua,uc,aa,ac,pa,pc,xa,xc,la,lc,ka,kc,rfl,rfl,rfl,rfl,rfl,rfl,rfl⟩:=h.slices;obtain ⟨⟨sc,su,sa,sp⟩,⟨gen,bl,busy,⟨nc,nt,⟨nk,na,no,nn⟩⟩,pl,⟨se,sn⟩⟩,up,pause,falls,cls⟩:=m;simp only [zaO] at *;have EW:=zhd (Ext.refl w);obtain ⟨B,hB⟩:=zei A w.heap.size 3;have HK:=zhd hB;clear hB;have H:=zhd (h.widen HK.o.1);clear h;obtain ⟨FX,hFM⟩:∃ x,zfC ⟨⟨sc,su,sa,sp⟩,⟨gen,bl,busy,⟨nc,nt,⟨nk,na,no,nn⟩⟩,pl,⟨se,sn⟩⟩,up,pause,falls,cls⟩=x:=⟨_,rfl⟩;have hX:doM ⟨⟨sc,su,sa,sp⟩,⟨gen,bl,busy,⟨nc,nt,⟨nk,na,no,nn⟩⟩,pl,⟨se,sn⟩⟩,up,pause,falls,cls⟩ 4 n=(zfC ⟨⟨sc,su,sa,sp⟩,⟨gen,bl,busy,⟨nc,nt,⟨nk,na,no,nn⟩⟩,pl,⟨se,sn⟩⟩,up,pause,falls,cls⟩,0):=rfl;rw [hX,hFM];have HFM:=zhd hFM;clear hX hFM;go_enter Try.func20,Try.ntmps20
 go_wp2_with (with_reducible refine zT ?_)
 refine zal rfl 43 (.tmp 0) rfl #[.slice ca sc.length cc,.slice ua su.length uc,.slice aa sa.length ac,.slice pa sp.length pc,I gen,.slice xa bl.length xc,.bool busy,I nc,I nt,I nk,I na,I no,I nn,.slice la pl.length lc,I se,I sn,.bool up,I pause,I falls,.slice ka cls.length kc] rfl (fun b0 w1_ M1=>?_);have zab:=zmb M1;go_wp2_with (with_reducible refine zT ?_)
 refine zal rfl 66 (.tmp 1) rfl #[I 4,I n] rfl (fun b1 w2_ M2=>?_);have zad:=zmb M2;go_wp2_with (with_reducible refine zT ?_)
 refine zah rfl 43 zM (by kernel_rfl) (fun b2 w3_ M3=>?_);replace zab:=zmo M2 zab;have zas:=zmb M3;have za3:=zA0 M1;have za7:=zA1 za3 M1 M2;have zbV:=zA1 za7 M2 M3;have zaP:=znb HK zbV (by decide);have zbU:=zob zbV;replace zad:=zmo M3 zad;have k0:=zaa (i:=0) zad.o rfl;go_wp2_with (with_reducible refine zT ?_)
 clear k0;replace zab:=zmo M3 zab;refine zai rfl 43 (.tmp 2) rfl b0 rfl zab zbf za2 (fun v130 H_v130=>?_);go_wp2_with fail
 rw [show _=Value.agg #[.slice ca sc.length cc,.slice ua su.length uc,.slice aa sa.length ac,.slice pa sp.length pc,I gen,.slice xa bl.length xc,.bool busy,I nc,I nt,I nk,I na,I no,I nn,.slice la pl.length lc,I se,I sn,.bool up,I pause,I falls,.slice ka cls.length kc] from H_v130.o];replace H:=zhd ((zhd ((zhd (H.o.ext M1.o.ext)).o.ext M2.o.ext)).o.ext M3.o.ext);refine (zh0 ⟨⟨sc,su,sa,sp⟩,⟨gen,bl,busy,⟨nc,nt,⟨nk,na,no,nn⟩⟩,pl,⟨se,sn⟩⟩,up,pause,falls,cls⟩ _ _ _ _ _ _ _ w3_ B H.o hr hg hpz).to fun r w9 e9 hr=>?_;rw [HFM.o] at hr;obtain ⟨cs,rfl,hcs⟩:=zdU hr;obtain ⟨c',u',a',p',box',plan',cl',rfl,hm⟩:=zeT hcs;obtain ⟨ca',cc',ua',uc',aa',ac',pa',pc',xa',xc',la',lc',ka',kc',rfl,rfl,rfl,rfl,rfl,rfl,rfl⟩:=hm.slices;have hsz:w.heap.size+3<=w3_.heap.size:=by have q:=(zlt zas); have q2:=zbV.o; omega
 have HM:=zhd (hm.widen (B:=B) (fun k _ h=>by
  rcases h with h | h
  ·exact h
  ·exact HK.o.2.1 k (by omega)))
 clear hr hcs hm hsz;go_wp2_with (with_reducible refine zT ?_)
 replace zas:=zbx zas e9;refine zaf rfl 43 (.tmp 4) (.tmp 131) rfl b2 rfl [.slice ca' (FX).store.cells.length cc',.slice ua' (FX).store.undo.length uc',.slice aa' (FX).store.answers.length ac',.slice pa' (FX).store.past.length pc',I (FX).server.gen,.slice xa' (FX).server.box.length xc',.bool (FX).server.busy,I (FX).server.now.client,I (FX).server.now.token,I (FX).server.now.call.kind,I (FX).server.now.call.name,I (FX).server.now.call.other,I (FX).server.now.call.n,.slice la' (FX).server.plan.length lc',I (FX).server.says.err,I (FX).server.says.n,.bool (FX).up,I (FX).pause,I (FX).falls,.slice ka' (FX).clients.length kc'] (rfl) zas rfl za2 rfl (fun w4_ M4=>?_);replace zas:=zwb M4;go_wp2
 have z0:=zay (P:=Try.prog) 43 zas.o zbf (by kernel_rfl);refine bodyPost_ret (by simp [results,Try.results20,asAddr,z0]; rfl) rfl ?_;replace EW:=zwe M4 (zhd ((zet (zet (zet EW M1) M2) M3).o.trans e9)) zbU;replace HM:=zHw M4 HM zaP;exact ⟨_,rfl,EW.o,Rd.widen (A:=B) (zbO (RdM.mc (m:=FX) HM.o)) (fun k _ h=>HK.o.2.2.2 k h)⟩

end Go.Proofs.Ytdmipnnfoolelaf

/- Texts of the proof, merged: G2 S8 S9 G3 N15. -/
import Derived.Test.YtdmipnnfooleladKK
import Derived.Test.YtdmipnnfooleladKF
import Derived.Test.YtdmipnnfooleladKG
import Derived.Test.YtdmipnnfooleladKC
import Derived.Test.YtdmipnnfooleladKE

namespace Go.Proofs.Ytdmipnnfoolelad
open Go.RowKit Go.Mk

/-- How much a machine may hold. -/
def SmallM (m : Mc) : Prop:=Small m.store ∧ SmallV m.server ∧ m.clients.length ≤ 1000 ∧ ∀ c ∈ m.clients,SmallC c
theorem own_ne_gt {g n cap b : Nat} (h : g < b) : (Value.slice (some ⟨g,0,none⟩) n cap).ownBlock ≠ some b:=fun e=>by
 have q : g = b:=by simpa [Value.ownBlock] using e
 omega
/-- Clients that are copied so far. -/
def DoneTo (k : Nat) (css : List (List Value)) (cls : List Cn) (w : World) : Prop:=∀ (j : Nat) (c : List Value) (x : Cn),j < k → css[j]? = some c → cls[j]? = some x → elCn w c x
theorem doneTo_set {k : Nat} {css : List (List Value)} {cls : List Cn} {c : List Value} {x : Cn} {A : Nat → Prop} {w : World} (h : Rd A (DoneTo k css cls) w) (hx : cls[k]? = some x) (hk : k < css.length) (hc : Rd A (fun w=>elCn w c x) w) : Rd A (DoneTo (k + 1) (css.set k c) cls) w:=(h.and hc).imp fun w ⟨h1,h2⟩ j c' x' hj hc' hx'=>by
 by_cases e : j = k
 ·subst e
  rw [List.getElem?_set_self hk] at hc'
  rw [hx] at hx'
  cases hc'
  cases hx'
  exact h2
 ·rw [List.getElem?_set_ne (fun q=>e q.symm)] at hc'
  exact h1 j c' x' (by omega) hc' hx'
theorem doneTo_each {css : List (List Value)} {cls : List Cn} {A : Nat → Prop} {w : World} (h : Rd A (DoneTo cls.length css cls) w) (hl : css.length = cls.length) (hz : ∀ c ∈ css,c.length = 6) : Rd A (fun w=>Each 6 elCn w css cls) w:=h.imp fun _ h=>⟨hl,fun j c x hc hx=>⟨hz c (List.mem_of_getElem? hc),h j c x (List.getElem?_eq_some_iff.1 hx).1 hc hx⟩⟩

set_option maxRecDepth 100000 in
set_option maxHeartbeats 4000000 in
theorem OwnM_keeps (m : Mc) (c u a p box plan cl : Value) (w : World) (A : Nat → Prop) (h : RdM A w m c u a p box plan cl) (hs : SmallM m) :
  Keeps Try.prog 13 #[.agg (cells20 m c u a p box plan cl).toArray] w (fun _=>False) (fun r w'=>Agg elMc m r w'):=by
 unfold Keeps
 obtain ⟨ca,cc,ua,uc,aa,ac,pa,pc,xa,xc,la,lc,ka,kc,rfl,rfl,rfl,rfl,rfl,rfl,rfl⟩:=h.slices
 have HS:=Lib.hid hs
 obtain ⟨css0,heach,hrow0⟩:=h.clients.out
 have HE:=Lib.hid heach
 have HR0:=Lib.hid hrow0
 have H1:=Lib.hid h.cells.out
 have H2:=Lib.hid h.undo.out
 have H3:=Lib.hid h.answers.out
 have H4:=Lib.hid h.past.out
 have H5:=Lib.hid h.box.out
 have H6:=Lib.hid h.plan.out
 clear hs h heach hrow0
 have EW:=Lib.hid (Ext.refl w)
 obtain ⟨B,hB⟩:=away (fun _=>False) w.heap.size 2
 have HK:=Lib.hid hB
 clear hB
 go_enter Try.func13,Try.ntmps13
 go_wp2_with ((with_reducible refine zst (L:=[43,40,30,67]) ?_ ?_); exact rfl)
 unfold Hid
 refine wpList_boxB rfl 43 (.tmp 0) rfl #[.slice ca m.store.cells.length cc,.slice ua m.store.undo.length uc,.slice aa m.store.answers.length ac,.slice pa m.store.past.length pc,I m.server.gen,.slice xa m.server.box.length xc,.bool m.server.busy,I m.server.now.client,I m.server.now.token,I m.server.now.call.kind,I m.server.now.call.name,I m.server.now.call.other,I m.server.now.call.n,.slice la m.server.plan.length lc,I m.server.says.err,I m.server.says.n,.bool m.up,I m.pause,I m.falls,.slice ka m.clients.length kc] rfl (fun b0 w1_ M1=>?_)
 have B_b0:=zmb M1
 replace EW:=zet EW M1
 go_wp2_with ((with_reducible refine zst (L:=[43,40,30,67]) ?_ ?_); exact rfl)
 unfold Hid
 refine wpList_allocB rfl 43 #[.slice none 0 0,.slice none 0 0,.slice none 0 0,.slice none 0 0,I 0,.slice none 0 0,.bool false,I 0,I 0,I 0,I 0,I 0,I 0,.slice none 0 0,I 0,I 0,.bool false,I 0,I 0,.slice none 0 0] (by kernel_rfl) (fun b1 w2_ M2=>?_)
 have D_b0_b1:=zld B_b0 M2
 replace B_b0:=zmo M2 B_b0
 have B_b1:=zmb M2
 replace EW:=zet EW M2
 have A_b0 : Hid (b0 = w.heap.size + 0):=by unfold Hid; have q0:=M1.out.at_; have r0:=M1.out.size; omega
 have N_b0:=znb HK A_b0 (by decide)
 have O_b0:=zob A_b0
 have A_b1 : Hid (b1 = w.heap.size + 1):=by unfold Hid; have q0:=M1.out.at_; have r0:=M1.out.size; have q1:=M2.out.at_; have r1:=M2.out.size; omega
 have N_b1:=znb HK A_b1 (by decide)
 have O_b1:=zob A_b1
 go_wp2_with ((with_reducible refine zst (L:=[43,40,30,67]) ?_ ?_); exact rfl)
 unfold Hid
 refine wpList_loadP rfl 30 (.tmp 5) rfl b0 0 rfl B_b0 [.slice ca m.store.cells.length cc,.slice ua m.store.undo.length uc,.slice aa m.store.answers.length ac,.slice pa m.store.past.length pc] rfl Try.underlying30 (by kernel_rfl) (fun v6 H_v6=>?_)
 go_wp2_with fail
 rw [H_v6.out]
 clear H_v6
 have hin : ∀ k,w2_.heap.size ≤ k → B k:=fun k h=>HK.out.2.1 k (by have q:=(Array.getElem?_eq_some_iff.1 B_b1.out).1; have q2:=A_b1.out; omega)
 refine (Own_any _ _ _ _ m.store w2_ (st_iff.2 ⟨H1.out.ext EW.out,H2.out.ext EW.out,H3.out.ext monoAn EW.out,H4.out.ext monoRq EW.out⟩) HS.out.1).to fun r wa ea hr=>?_
 obtain ⟨c',u',a',p',rfl,ho⟩:=hr
 obtain ⟨ca1,cc1,rfl⟩:=own_slice ho.cells
 obtain ⟨ua1,uc1,rfl⟩:=own_slice ho.undo
 obtain ⟨aa1,ac1,rfl⟩:=own_slice ho.answers
 obtain ⟨pa1,pc1,rfl⟩:=own_slice ho.past
 have R1:=Lib.hid ((rd_ints ho.cells).widen (B:=B) fun k _ h=>hin k (by omega))
 have R2:=Lib.hid ((rd_writes ho.undo).widen (B:=B) fun k _ h=>hin k (by omega))
 have R3:=Lib.hid ((rd_anss ho.answers).widen (B:=B) fun k _ h=>hin k (by omega))
 have R4:=Lib.hid ((rd_rqs ho.past).widen (B:=B) fun k _ h=>hin k (by omega))
 clear ho hin
 replace B_b0:=zbx B_b0 ea
 replace B_b1:=zbx B_b1 ea
 replace EW:=Lib.hid (EW.out.trans ea)
 clear ea
 go_wp2_with ((with_reducible refine zst (L:=[43,40,30,67]) ?_ ?_); exact rfl)
 unfold Hid
 refine wpList_storeP rfl 30 (.tmp 8) (.tmp 7) rfl b0 0 rfl [.slice ca1 m.store.cells.length cc1,.slice ua1 m.store.undo.length uc1,.slice aa1 m.store.answers.length ac1,.slice pa1 m.store.past.length pc1] (rfl) B_b0 rfl (by kernel_rfl) rfl [.slice ca1 m.store.cells.length cc1,.slice ua1 m.store.undo.length uc1,.slice aa1 m.store.answers.length ac1,.slice pa1 m.store.past.length pc1,I m.server.gen,.slice xa m.server.box.length xc,.bool m.server.busy,I m.server.now.client,I m.server.now.token,I m.server.now.call.kind,I m.server.now.call.name,I m.server.now.call.other,I m.server.now.call.n,.slice la m.server.plan.length lc,I m.server.says.err,I m.server.says.n,.bool m.up,I m.pause,I m.falls,.slice ka m.clients.length kc] rfl (fun w3_ M3=>?_)
 replace B_b0:=zwb M3
 replace B_b1:=zwg M3 B_b1 D_b0_b1
 replace R1:=zwr M3 R1 N_b0
 replace R2:=zwr M3 R2 N_b0
 replace R3:=zwr M3 R3 N_b0
 replace R4:=zwr M3 R4 N_b0
 replace EW:=zwe M3 EW O_b0
 go_wp2_with ((with_reducible refine zst (L:=[43,40,30,67]) ?_ ?_); exact rfl)
 unfold Hid
 refine wpList_loadP rfl 40 (.tmp 9) rfl b0 4 rfl B_b0 [I m.server.gen,.slice xa m.server.box.length xc,.bool m.server.busy,I m.server.now.client,I m.server.now.token,I m.server.now.call.kind,I m.server.now.call.name,I m.server.now.call.other,I m.server.now.call.n,.slice la m.server.plan.length lc,I m.server.says.err,I m.server.says.n] rfl Try.underlying40 (by kernel_rfl) (fun v10 H_v10=>?_)
 go_wp2_with fail
 rw [H_v10.out]
 clear H_v10
 have hin : ∀ k,w3_.heap.size ≤ k → B k:=fun k h=>HK.out.2.1 k (by have q:=(Array.getElem?_eq_some_iff.1 B_b1.out).1; have q2:=A_b1.out; omega)
 refine (OwnV_any m.server _ _ w3_ (H5.out.ext monoBs EW.out) (H6.out.ext EW.out) HS.out.2.1).to fun r wb eb hr=>?_
 obtain ⟨box',plan',rfl,ho,yg,rfl⟩:=hr
 obtain ⟨la1,lc1,rfl⟩:=own_slice ho.plan
 obtain ⟨q5,q6⟩:=ho.rd (B:=B) (fun k h _=>hin k h)
 have R5:=Lib.hid q5
 have R6:=Lib.hid q6
 clear ho hin q5 q6
 replace B_b0:=zbx B_b0 eb
 replace B_b1:=zbx B_b1 eb
 replace R1:=zrx R1 eb
 replace R2:=zrx R2 eb
 replace R3:=zrx R3 eb
 replace R4:=zrx R4 eb
 replace EW:=Lib.hid (EW.out.trans eb)
 clear eb
 go_wp2_with ((with_reducible refine zst (L:=[43,40,30,67]) ?_ ?_); exact rfl)
 unfold Hid
 refine wpList_storeP rfl 40 (.tmp 12) (.tmp 11) rfl b0 4 rfl [I m.server.gen,.slice (some ⟨yg,0,none⟩) m.server.box.length m.server.box.length,.bool m.server.busy,I m.server.now.client,I m.server.now.token,I m.server.now.call.kind,I m.server.now.call.name,I m.server.now.call.other,I m.server.now.call.n,.slice la1 m.server.plan.length lc1,I m.server.says.err,I m.server.says.n] (rfl) B_b0 rfl (by kernel_rfl) rfl [.slice ca1 m.store.cells.length cc1,.slice ua1 m.store.undo.length uc1,.slice aa1 m.store.answers.length ac1,.slice pa1 m.store.past.length pc1,I m.server.gen,.slice (some ⟨yg,0,none⟩) m.server.box.length m.server.box.length,.bool m.server.busy,I m.server.now.client,I m.server.now.token,I m.server.now.call.kind,I m.server.now.call.name,I m.server.now.call.other,I m.server.now.call.n,.slice la1 m.server.plan.length lc1,I m.server.says.err,I m.server.says.n,.bool m.up,I m.pause,I m.falls,.slice ka m.clients.length kc] rfl (fun w4_ M4=>?_)
 replace B_b0:=zwb M4
 replace B_b1:=zwg M4 B_b1 D_b0_b1
 replace R1:=zwr M4 R1 N_b0
 replace R2:=zwr M4 R2 N_b0
 replace R3:=zwr M4 R3 N_b0
 replace R4:=zwr M4 R4 N_b0
 replace R5:=zwr M4 R5 N_b0
 replace R6:=zwr M4 R6 N_b0
 replace EW:=zwe M4 EW O_b0
 have c19:=cell_of (i:=19) B_b0.out rfl
 go_wp2_with fail
 clear c19
 have hin : ∀ k,w4_.heap.size ≤ k → B k:=fun k h=>HK.out.2.1 k (by have q:=(Array.getElem?_eq_some_iff.1 B_b1.out).1; have q2:=A_b1.out; omega)
 have hones:=HE.out.ones oneCn
 refine (own_clientsG _ m.clients.length css0.flatten w4_ (HR0.out.ext EW.out) hones (by have:=HS.out.2.2.1; omega)).to fun r wc ec hr=>?_
 obtain ⟨ho,rfl⟩:=hr
 obtain ⟨g,hg⟩ : ∃ g,w4_.heap.size = g:=⟨_,rfl⟩
 have HG:=Lib.hid hg
 rw [hg] at ho
 clear hones
 have D_b0_g : Hid (b0 < g):=by unfold Hid; have q:=(Array.getElem?_eq_some_iff.1 B_b0.out).1; omega
 have D_b1_g : Hid (b1 < g):=by unfold Hid; have q:=(Array.getElem?_eq_some_iff.1 B_b1.out).1; omega
 have O_g : Hid (w.heap.size ≤ g):=by unfold Hid; have q:=EW.out.size; omega
 obtain ⟨B1,HB1⟩ : ∃ X : Nat → Prop,Hid (∀ k,X k ↔ (B k ∧ k ≠ g)):=⟨_,fun _=>Iff.rfl⟩
 have hnar : ∀ k,k < w4_.heap.size → B k → B1 k:=fun k hk h=>(HB1.out k).2 ⟨h,by omega⟩
 replace R1:=Lib.hid (R1.out.widen (B:=B1) hnar)
 replace R2:=Lib.hid (R2.out.widen (B:=B1) hnar)
 replace R3:=Lib.hid (R3.out.widen (B:=B1) hnar)
 replace R4:=Lib.hid (R4.out.widen (B:=B1) hnar)
 replace R5:=Lib.hid (R5.out.widen (B:=B1) hnar)
 replace R6:=Lib.hid (R6.out.widen (B:=B1) hnar)
 replace N_b0 : Hid (¬ B1 b0):=fun h=>N_b0.out ((HB1.out _).1 h).1
 replace N_b1 : Hid (¬ B1 b1):=fun h=>N_b1.out ((HB1.out _).1 h).1
 have N_g : Hid (¬ B1 g):=fun h=>((HB1.out _).1 h).2 rfl
 have I_B1 : Hid (∀ k,B1 k → B k):=fun k h=>((HB1.out k).1 h).1
 clear hnar
 have N_gg : Hid (¬ B1 g):=N_g.out
 have HG2 : Hid (∀ k,g ≤ k → B k):=fun k h=>hin k (by omega)
 have HNEW : Hid (∀ k,g < k → B1 k):=fun k h=>(HB1.out k).2 ⟨hin k (by omega),by omega⟩
 clear hin
 replace B_b0:=zbx B_b0 ec
 replace B_b1:=zbx B_b1 ec
 replace R1:=zrx R1 ec
 replace R2:=zrx R2 ec
 replace R3:=zrx R3 ec
 replace R4:=zrx R4 ec
 replace R5:=zrx R5 ec
 replace R6:=zrx R6 ec
 replace EW:=Lib.hid (EW.out.trans ec)
 rw [hg]
 have HO:=Lib.hid ho
 clear ec ho hg HG
 go_wp2_with ((with_reducible refine zst (L:=[43,40,30,67]) ?_ ?_); exact rfl)
 unfold Hid
 refine wpList_storeP rfl 41 (.tmp 16) (.tmp 15) rfl b0 19 rfl [.slice (some ⟨g,0,none⟩) m.clients.length m.clients.length] (rfl) B_b0 rfl (by kernel_rfl) rfl [.slice ca1 m.store.cells.length cc1,.slice ua1 m.store.undo.length uc1,.slice aa1 m.store.answers.length ac1,.slice pa1 m.store.past.length pc1,I m.server.gen,.slice (some ⟨yg,0,none⟩) m.server.box.length m.server.box.length,.bool m.server.busy,I m.server.now.client,I m.server.now.token,I m.server.now.call.kind,I m.server.now.call.name,I m.server.now.call.other,I m.server.now.call.n,.slice la1 m.server.plan.length lc1,I m.server.says.err,I m.server.says.n,.bool m.up,I m.pause,I m.falls,.slice (some ⟨g,0,none⟩) m.clients.length m.clients.length] rfl (fun w5_ M5=>?_)
 replace B_b0:=zwb M5
 replace B_b1:=zwg M5 B_b1 D_b0_b1
 replace R1:=zwr M5 R1 N_b0
 replace R2:=zwr M5 R2 N_b0
 replace R3:=zwr M5 R3 N_b0
 replace R4:=zwr M5 R4 N_b0
 replace R5:=zwr M5 R5 N_b0
 replace R6:=zwr M5 R6 N_b0
 replace HO:=Lib.hid (M5.out.owns HO.out (own_ne_lt D_b0_g.out))
 replace EW:=zwe M5 EW O_b0
 have c19:=cell_of (i:=19) B_b0.out rfl
 go_wp2_with fail
 clear c19
 have RS : Hid (Rd B1 (fun w=>(Ints w (.slice ca1 m.store.cells.length cc1) m.store.cells ∧ Writes w (.slice ua1 m.store.undo.length uc1) m.store.undo ∧ RowOf 4 elAn w (.slice aa1 m.store.answers.length ac1) m.store.answers ∧ RowOf 6 elRq w (.slice pa1 m.store.past.length pc1) m.store.past) ∧ RowOf 1 elBs w (.slice (some ⟨yg,0,none⟩) m.server.box.length m.server.box.length) m.server.box ∧ Writes w (.slice la1 m.server.plan.length lc1) m.server.plan) w5_):=(R1.out.and (R2.out.and (R3.out.and R4.out))).and (R5.out.and R6.out)
 clear R1 R2 R3 R4 R5 R6
 go_loopw [20] (fun i wr=>∃ (k : Nat) (css : List (List Value)),k ≤ m.clients.length ∧ i = I k ∧ wr.ownsRow g 67 6 (.slice (some ⟨g,0,none⟩) m.clients.length m.clients.length) m.clients.length css.flatten ∧ css.length = m.clients.length ∧ (∀ c ∈ css,c.length = 6) ∧ (∀ j,k ≤ j → css[j]? = css0[j]?) ∧ Rd B1 (DoneTo k css m.clients) wr ∧ Rd B1 (fun w=>(Ints w (.slice ca1 m.store.cells.length cc1) m.store.cells ∧ Writes w (.slice ua1 m.store.undo.length uc1) m.store.undo ∧ RowOf 4 elAn w (.slice aa1 m.store.answers.length ac1) m.store.answers ∧ RowOf 6 elRq w (.slice pa1 m.store.past.length pc1) m.store.past) ∧ RowOf 1 elBs w (.slice (some ⟨yg,0,none⟩) m.server.box.length m.server.box.length) m.server.box ∧ Writes w (.slice la1 m.server.plan.length lc1) m.server.plan) wr ∧ wr.heap[b0]? = some (.cells #[.slice ca1 m.store.cells.length cc1,.slice ua1 m.store.undo.length uc1,.slice aa1 m.store.answers.length ac1,.slice pa1 m.store.past.length pc1,I m.server.gen,.slice (some ⟨yg,0,none⟩) m.server.box.length m.server.box.length,.bool m.server.busy,I m.server.now.client,I m.server.now.token,I m.server.now.call.kind,I m.server.now.call.name,I m.server.now.call.other,I m.server.now.call.n,.slice la1 m.server.plan.length lc1,I m.server.says.err,I m.server.says.n,.bool m.up,I m.pause,I m.falls,.slice (some ⟨g,0,none⟩) m.clients.length m.clients.length] 43 (0,0)) ∧ wr.heap[b1]? = some (.cells #[.slice none 0 0,.slice none 0 0,.slice none 0 0,.slice none 0 0,I 0,.slice none 0 0,.bool false,I 0,I 0,I 0,I 0,I 0,I 0,.slice none 0 0,I 0,I 0,.bool false,I 0,I 0,.slice none 0 0] 43 (0,0)) ∧ Ext w wr) (fun i _=>m.clients.length - (intOf i).toNat)
 case atStart=>exact ⟨0,css0,Nat.zero_le _,rfl,HO.out,HE.out.1,HE.out.sizes,fun _ _=>rfl,Rd.all fun w j c x hj=>absurd hj (Nat.not_lt_zero _),RS.out,B_b0.out,B_b1.out,EW.out⟩
 case round =>
  obtain ⟨k,css,hk,rfl,ho,hlen,hsz,hold,hdone,hrs,hb0,hb1,hex⟩:=hrel
  clear B_b0 B_b1 RS EW HO
  have HO:=Lib.hid ho
  have HLEN:=Lib.hid hlen
  have HSZ:=Lib.hid hsz
  have HOLD:=Lib.hid hold
  have RD:=Lib.hid hdone
  have RS:=Lib.hid hrs
  have B_b0:=Lib.hid hb0
  have B_b1:=Lib.hid hb1
  have EW:=Lib.hid hex
  clear ho hlen hsz hold hdone hrs hb0 hb1 hex
  by_cases hlt : k < m.clients.length
  ·obtain ⟨c0,x,hc0,hx,_⟩:=elem_at HE.out hlt
   obtain ⟨kcalls,kbox,kgot,rfl,x1,x2,x3⟩:=(HE.out.2 k _ _ hc0 hx).2
   have HX:=Lib.hid hx
   have hck : css[k]? = _:=(HOLD.out k (Nat.le_refl _)).trans hc0
   have hrg:=row_cells (by decide) (Row.of_owns HO.out) HSZ.out hck
   rw [Nat.zero_add] at hrg
   have HRG:=Lib.hid hrg
   have HSC:=Lib.hid (HS.out.2.2.2 x (List.mem_of_getElem? hx))
   obtain ⟨ka1,kc1,rfl⟩:=rowOf_slice x1
   obtain ⟨ka2,kc2,rfl⟩:=rowOf_slice x2
   obtain ⟨ka3,kc3,rfl⟩:=rowOf_slice x3
   have X1:=Lib.hid x1
   have X2:=Lib.hid x2
   have X3:=Lib.hid x3
   have hli : (k : Int) < (m.clients.length : Int):=by omega
   have hl0 : (0 : Int) ≤ (k : Int):=by omega
   have HLT:=Lib.hid hlt
   clear hx hc0 hck hrg x1 x2 x3 hlt hk
   have HC18 : Hid True:=trivial
   go_wp2_with ((with_reducible refine zst (L:=[43,40,30,67]) ?_ ?_); exact rfl)
   unfold Hid
   clear hli hl0
   refine wpList_loadR rfl 67 (.tmp 23) rfl g (k * 6) rfl [.slice ka1 x.calls.length kc1,I x.at_,.bool x.sent,I x.gen,.slice ka2 x.box.length kc2,.slice ka3 x.got.length kc3] HRG.out Try.underlying67 (by kernel_rfl) (fun v24 H_v24=>?_)
   go_wp2_with ((with_reducible refine zst (L:=[43,40,30,67]) ?_ ?_); exact rfl)
   unfold Hid
   have SZ0 : Hid (g < wr.heap.size):=by unfold Hid; exact (HO.out.lt g rfl).2
   refine wpList_allocB rfl 67 #[.slice none 0 0,I 0,.bool false,I 0,.slice none 0 0,.slice none 0 0] (by kernel_rfl) (fun b4 w101_ M101=>?_)
   have D_b0_b4:=zld B_b0 M101
   have D_b1_b4:=zld B_b1 M101
   obtain ⟨B11,HB11⟩ : ∃ X : Nat → Prop,Hid (∀ k,X k ↔ (B1 k ∧ k ≠ b4)):=⟨_,fun _=>Iff.rfl⟩
   replace RD:=zmd HB11 M101 RD
   replace RS:=zmd HB11 M101 RS
   replace N_b0:=znw HB11 N_b0
   replace N_b1:=znw HB11 N_b1
   replace N_g:=znw HB11 N_g
   have N_b4 : Hid (¬ B11 b4):=fun h=>((HB11.out _).1 h).2 rfl
   have I_B11 : Hid (∀ k,B11 k → B1 k):=fun k h=>((HB11.out k).1 h).1
   have O_b4 : Hid (w.heap.size ≤ b4):=by unfold Hid; have q2:=M101.out.at_; have q3:=EW.out.size; omega
   replace B_b0:=zmo M101 B_b0
   replace B_b1:=zmo M101 B_b1
   have B_b4:=zmb M101
   replace RD:=zme M101 RD
   replace RS:=zme M101 RS
   replace HO:=Lib.hid (owns_ext HO.out M101.out.ext)
   replace EW:=zet EW M101
   have D_g_b4 : Hid (g < b4):=by unfold Hid; have q:=SZ0.out; have q2:=M101.out.at_; omega
   clear SZ0
   go_wp2_with ((with_reducible refine zst (L:=[43,40,30,67]) ?_ ?_); exact rfl)
   unfold Hid
   refine wpList_storeW rfl 67 (.tmp 4) (.tmp 24) rfl b4 rfl _ (zcv H_v24) B_b4 rfl (by kernel_rfl) rfl (fun w102_ M102=>?_)
   replace B_b0:=zwl M102 B_b0 D_b0_b4
   replace B_b1:=zwl M102 B_b1 D_b1_b4
   replace B_b4:=zwb M102
   replace RD:=zwr M102 RD N_b4
   replace RS:=zwr M102 RS N_b4
   replace HO:=Lib.hid (M102.out.owns HO.out (own_ne_gt D_g_b4.out))
   replace EW:=zwe M102 EW O_b4
   go_wp2_with fail
   
   have SZ7 : Hid (g < w102_.heap.size):=by unfold Hid; have q:=(Array.getElem?_eq_some_iff.1 B_b4.out).1; have q2:=D_g_b4.out; omega
   have c19:=cell_of (i:=19) B_b0.out rfl
   have HXE : Hid (Ext w w102_):=EW.out
   refine wp_region_mono_tail 6 [none,none,none,none,some (.inr (fun (r : Value) (wx : World)=>Rd (fun k=>w102_.heap.size ≤ k) (Agg elCn x r) wx)),none] (by kernel_rfl) (by kernel_rfl) ?_ ?_
   ·exact ⟨trivial,trivial,trivial,trivial,fun _ _ _ he h=>h.ext he,trivial,trivial⟩
   iterate 1 (refine wpM_p (fun K hK=>?_); go_simp; first | refine hK _ ?_ | refine ⟨(fun h=>by cases h),hK _ ?_⟩; clear hK K)
   refine wpM_q (.slice (some ⟨g,0,none⟩) m.clients.length m.clients.length) rfl (fun w' hw'=>by have:=hw'.cell c19; go_simp) ?_
   refine wpM_norm (fun K hK=>?_); go_simp; refine hK _ ?_; clear hK K
   iterate 1 (refine wpM_p (fun K hK=>?_); go_simp; first | refine hK _ ?_ | refine ⟨(fun h=>by cases h),hK _ ?_⟩; clear hK K)
   refine wpM_q (.agg #[.slice ka1 x.calls.length kc1,I x.at_,.bool x.sent,I x.gen,.slice ka2 x.box.length kc2,.slice ka3 x.got.length kc3]) rfl (fun w' hw'=>run_loadM 67 (.tmp 4) rfl b4 0 rfl (blk_ext B_b4.out hw') [.slice ka1 x.calls.length kc1,I x.at_,.bool x.sent,I x.gen,.slice ka2 x.box.length kc2,.slice ka3 x.got.length kc3] rfl Try.underlying67 (by kernel_rfl)) ?_
   refine wpM_norm (fun K hK=>?_); go_simp; refine hK _ ?_; clear hK K
   refine wpM_l _ rfl (fun w' hw' hk=>?_) (fun v29=>?_)
   ·have hg : Gives Try.prog 27 #[.agg #[.slice ka1 x.calls.length kc1,I x.at_,.bool x.sent,I x.gen,.slice ka2 x.box.length kc2,.slice ka3 x.got.length kc3]] w' (fun (r : Value) (wx : World)=>Rd (fun k=>w102_.heap.size ≤ k) (Agg elCn x r) wx):=Calls.mono (OwnClient_keeps x _ _ _ w' (X1.out.ext monoCl (HXE.out.trans hw')) (X2.out.ext monoBs (HXE.out.trans hw')) (X3.out.ext monoRp (HXE.out.trans hw')) HSC.out) fun e wx h=>(by obtain ⟨r,he,hx,ht⟩:=h; exact ⟨r,he,hx,ht.widen fun k _ h=>by rcases h with h | h; exact h.elim; exact Nat.le_trans hw'.size h⟩)
    clear hk
    unfold makes
    go_simp
    exact ⟨Ext.refl _,hg⟩
   refine wpM_norm (fun K hK=>?_); go_simp; refine hK _ ?_; clear hK K
   have hli : (k : Int) < (m.clients.length : Int):=by have:=HLT.out; omega
   have hl0 : (0 : Int) ≤ (k : Int):=by omega
   iterate 1 (refine wpM_p (fun K hK=>?_); go_simp; first | refine hK _ ?_ | refine ⟨(fun h=>by cases h),hK _ ?_⟩; clear hK K)
   clear hli hl0
   refine wpM_nil ?_
   intro w8 e8 hF
   have h29 : (fun (r : Value) (wx : World)=>Rd (fun k=>w102_.heap.size ≤ k) (Agg elCn x r) wx) v29 w8:=hF 29
   clear hF c19
   replace B_b0:=zbx B_b0 e8
   replace B_b1:=zbx B_b1 e8
   replace B_b4:=zbx B_b4 e8
   replace RD:=zrx RD e8
   replace RS:=zrx RS e8
   replace HO:=Lib.hid (owns_ext HO.out e8)
   replace EW:=Lib.hid (EW.out.trans e8)
   obtain ⟨cs,rfl,hcs⟩:=rd_agg h29
   obtain ⟨n1,n2,n3,rfl,r1,r2,r3⟩:=rd_cn hcs
   obtain ⟨na1,nc1,rfl⟩:=rowOf_slice r1.out
   obtain ⟨na2,nc2,rfl⟩:=rowOf_slice r2.out
   obtain ⟨na3,nc3,rfl⟩:=rowOf_slice r3.out
   have RN:=Lib.hid (hcs.widen (B:=B1) fun k _ h=>HNEW.out k (by have q:=(Array.getElem?_eq_some_iff.1 (B_b4.out)).1; have q2:=D_g_b4.out; have q3:=SZ7.out; omega))
   replace RD:=Lib.hid (RD.out.widen (B:=B1) fun k _ h=>I_B11.out k h)
   replace RS:=Lib.hid (RS.out.widen (B:=B1) fun k _ h=>I_B11.out k h)
   clear h29 hcs r1 r2 r3 e8
   obtain ⟨cur,hgb,hbb,hcsz,htk,hncap,hmax⟩:=own_block HO.out
   have hnl:=HLT.out
   refine stop_store ?_
   unfold Hid
   refine wpList_storeM rfl 67 (.tmp 30) (.tmp 29) rfl g (k * 6) rfl [.slice na1 x.calls.length nc1,I x.at_,.bool x.sent,I x.gen,.slice na2 x.box.length nc2,.slice na3 x.got.length nc3] rfl hgb (by rw [hcsz]; simp only [List.length_cons,List.length_nil]; omega) (by kernel_rfl) (ones_of rfl) _ rfl (fun w103_ M103=>?_)
   have hO2:=own_spliced hbb hcsz htk hncap hmax M103.out (by simp only [List.length_cons,List.length_nil]; omega)
   rw [← flatten_set (size:=6) (by decide) HSZ.out (by rw [HLEN.out]; exact hnl) rfl] at hO2
   replace HO:=Lib.hid hO2
   clear hO2 hgb hbb hcsz htk hncap hmax
   replace B_b0:=Lib.hid (M103.out.old B_b0.out (Nat.ne_of_lt D_b0_g.out))
   replace B_b1:=Lib.hid (M103.out.old B_b1.out (Nat.ne_of_lt D_b1_g.out))
   clear B_b4
   replace RD:=Lib.hid (M103.out.rd RD.out N_gg.out)
   replace RS:=Lib.hid (M103.out.rd RS.out N_gg.out)
   replace RN:=Lib.hid (M103.out.rd RN.out N_gg.out)
   replace EW:=Lib.hid (M103.out.ext EW.out O_g.out)
   have hkb : k < 1000:=by have q:=HS.out.2.2.1; have q2:=HLT.out; omega
   go_wp2
   go_roundw
   case rel =>
    refine ⟨k + 1,css.set k [.slice na1 x.calls.length nc1,I x.at_,.bool x.sent,I x.gen,.slice na2 x.box.length nc2,.slice na3 x.got.length nc3],by have:=HLT.out; omega,by go_num,HO.out,by rw [List.length_set]; exact HLEN.out,fun c hc=>?_,fun j hj=>?_,doneTo_set RD.out HX.out (by rw [HLEN.out]; exact HLT.out) RN.out,RS.out,B_b0.out,B_b1.out,EW.out⟩
    ·rcases List.mem_or_eq_of_mem_set hc with hc | rfl
     ·exact HSZ.out c hc
     ·rfl
    ·rw [List.getElem?_set_ne (by omega)]
     exact HOLD.out j (by omega)
   case measure=>have:=HLT.out; simp [intOf]; omega
  ·have hkn : k = m.clients.length:=by omega
   subst hkn
   clear hlt hk
   go_wp2_with ((with_reducible refine zst (L:=[43,40,30,67]) ?_ ?_); exact rfl)
   unfold Hid
   refine wpList_loadW rfl 43 (.tmp 1) rfl b0 rfl B_b0 Try.underlying43 (by kernel_rfl) (fun v32 H_v32=>?_)
   go_wp2_with ((with_reducible refine zst (L:=[43,40,30,67]) ?_ ?_); exact rfl)
   unfold Hid
   refine wpList_storeW rfl 43 (.tmp 2) (.tmp 32) rfl b1 rfl _ (zcv H_v32) B_b1 rfl (by kernel_rfl) rfl (fun w201_ M201=>?_)
   replace B_b0:=zwl M201 B_b0 D_b0_b1
   replace B_b1:=zwb M201
   replace RD:=zwr M201 RD N_b1
   replace RS:=zwr M201 RS N_b1
   replace HO:=Lib.hid (M201.out.owns HO.out (own_ne_lt D_b1_g.out))
   replace EW:=zwe M201 EW O_b1
   go_wp2
   have z0:=run_box (P:=Try.prog) 43 B_b1.out Try.underlying43 (by kernel_rfl)
   refine bodyPost_ret (by simp [results,Try.results13,asAddr,z0,Act.put]; rfl) rfl ?_
   have hin : ∀ k,B1 k → B k:=fun k h=>I_B1.out k h
   have hcl : Rd B (fun w=>RowOf 6 elCn w (.slice (some ⟨g,0,none⟩) m.clients.length m.clients.length) m.clients) w201_:=rd_own_of (fun k h _=>HG2.out k h) (doneTo_each (RD.out.widen fun k _ h=>hin k h) HLEN.out HSZ.out) HO.out (by decide)
   have R:=RS.out.widen (B:=B) (fun k _ h=>hin k h)
   exact ⟨_,rfl,EW.out,Rd.widen (A:=B) (agg_rd (RdM.mc (m:=m) ⟨R.left.left,R.left.right.left,R.left.right.right.left,R.left.right.right.right,R.right.left,R.right.right,hcl⟩)) (fun k _ h=>HK.out.2.2.2 k h)⟩

end Go.Proofs.Ytdmipnnfoolelad

namespace Go.Proofs.Ytdmipnnfoolelad
open Go.RowKit Go.Mk

end Go.Proofs.Ytdmipnnfoolelad

namespace Go.Proofs.Ytdmipnnfoolelad
open Go.RowKit Go.Mk

set_option maxRecDepth 100000 in
set_option maxHeartbeats 1000000 in
theorem Back_any (c u a p : Value) (s : St) (w : World) (h : elSt w [c,u,a,p] s) (hs : Small s) :
  Keeps Try.prog 23 #[.agg #[c,u,a,p]] w (fun _=>False) (fun r w'=>Agg elSt (backSt s) r w'):=by
 unfold Keeps
 have HS:=Lib.hid hs
 clear hs
 have HE:=Lib.hid h
 clear h
 have e0 : Ext w ((w.alloc (.cells #[c,u,a,p] 30)).alloc (.cells #[.slice none 0 0,.slice none 0 0,.slice none 0 0,.slice none 0 0] 30)):=((Ext.refl w).alloc _).alloc _
 have HB:=Lib.hid (fun wx (h : Ext ((w.alloc (.cells #[c,u,a,p] 30)).alloc (.cells #[.slice none 0 0,.slice none 0 0,.slice none 0 0,.slice none 0 0] 30)) wx)=>second_block h)
 have hsz : ((w.alloc (.cells #[c,u,a,p] 30)).alloc (.cells #[.slice none 0 0,.slice none 0 0,.slice none 0 0,.slice none 0 0] 30)).heap.size = w.heap.size + 2:=by simp
 have HSZ:=Lib.hid hsz
 clear hsz
 go_enter Try.func23,Try.ntmps23
 go_wp2_with fail
 generalize hw0 : (w.alloc (.cells #[c,u,a,p] 30)).alloc (.cells #[.slice none 0 0,.slice none 0 0,.slice none 0 0,.slice none 0 0] 30) = w0 at *
 clear hw0
 refine (Own_any c u a p s w0 (monoSt _ _ _ _ e0 HE.out) HS.out).to fun r w1 e1 hr=>?_
 obtain ⟨c',u',a',p',rfl,ho⟩:=hr
 obtain ⟨ka,kc,hk0⟩:=own_slice ho.cells
 obtain ⟨la,lc,hk1⟩:=own_slice ho.undo
 obtain ⟨ma,mc,hk2⟩:=own_slice ho.answers
 obtain ⟨na,nc,hk3⟩:=own_slice ho.past
 subst hk0 hk1 hk2 hk3
 have hle:=e1.size
 have hz0:=HSZ.out
 obtain ⟨A,hA⟩ : ∃ A : Nat → Prop,∀ k,A k ↔ (w.heap.size + 2 ≤ k ∧ k ≠ w1.heap.size):=⟨_,fun _=>Iff.rfl⟩
 have HA:=Lib.hid hA
 clear hA
 have k1:=(rd_ints ho.cells).widen (B:=A) (fun k hk h=>(HA.out k).2 ⟨by omega,by omega⟩)
 have k2:=(rd_writes ho.undo).widen (B:=A) (fun k hk h=>(HA.out k).2 ⟨by omega,by omega⟩)
 have k3:=(rd_anss ho.answers).widen (B:=A) (fun k hk h=>(HA.out k).2 ⟨by omega,by omega⟩)
 have k4:=(rd_rqs ho.past).widen (B:=A) (fun k hk h=>(HA.out k).2 ⟨by omega,by omega⟩)
 clear ho
 have ng : ¬ A w1.heap.size:=fun h=>((HA.out _).1 h).2 rfl
 have n1 : ¬ A (w.heap.size + 1):=fun h=>by have:=((HA.out _).1 h).1; omega
 have ea:=(Ext.refl w1).alloc (.cells #[(.slice ka s.cells.length kc),(.slice la s.undo.length lc),(.slice ma s.answers.length mc),(.slice na s.past.length nc)] 30)
 replace k1:=k1.ext ea
 replace k2:=k2.ext ea
 replace k3:=k3.ext ea
 replace k4:=k4.ext ea
 have b3:=heap_alloc_new w1 (.cells #[(.slice ka s.cells.length kc),(.slice la s.undo.length lc),(.slice ma s.answers.length mc),(.slice na s.past.length nc)] 30)
 have hs2 : (w1.alloc (.cells #[(.slice ka s.cells.length kc),(.slice la s.undo.length lc),(.slice ma s.answers.length mc),(.slice na s.past.length nc)] 30)).heap.size = w1.heap.size + 1:=by simp
 have ew:=(e0.trans e1).alloc (.cells #[(.slice ka s.cells.length kc),(.slice la s.undo.length lc),(.slice ma s.answers.length mc),(.slice na s.past.length nc)] 30)
 have b1:=HB.out _ (e1.alloc (.cells #[(.slice ka s.cells.length kc),(.slice la s.undo.length lc),(.slice ma s.answers.length mc),(.slice na s.past.length nc)] 30))
 have K1:=Lib.hid k1
 have K2:=Lib.hid k2
 have K3:=Lib.hid k3
 have K4:=Lib.hid k4
 have B3:=Lib.hid b3
 have B1:=Lib.hid b1
 have HS2:=Lib.hid hs2
 have EW:=Lib.hid ew
 have HLE:=Lib.hid hle
 have HZ0:=Lib.hid hz0
 clear k1 k2 k3 k4 b3 b1 hs2 ew ea hle hz0
 go_wp2_with fail
 refine (Set_own _ _ s.cells s.undo _ K1.out.out K2.out.out (by have:=HS.out.1; omega) (by have:=HS.out.2.1; omega)).to fun r w3 e3 ⟨n3,ho3⟩=>?_
 have hle:=HLE.out
 have hz0:=HZ0.out
 have hs2:=HS2.out
 have k5:=(rd_ints ho3).widen (B:=A) (fun k hk h=>(HA.out k).2 (by simp at h; omega))
 obtain ⟨ra,rc,hrs⟩:=own_slice ho3
 subst hrs
 have d3:=block_of B3.out e3
 have d1:=block_of B1.out e3
 have ew:=EW.out.trans e3
 have K5:=Lib.hid k5
 have K6:=Lib.hid (K3.out.ext e3)
 have K7:=Lib.hid (K4.out.ext e3)
 have hn1 : ¬ (w1.heap.size = w.heap.size + 1):=by omega
 have hn2 : ¬ (w.heap.size + 1 = w1.heap.size):=by omega
 clear k5 ho3 hle hz0 hs2 e3 K1 K2 K3 K4
 obtain ⟨x0,x1,x2,x3,f0,f1,f2,f3⟩:=box4 d3
 obtain ⟨y0,y1,y2,y3,g0,g1,g2,g3⟩:=box4 d1
 go_wp2_with fail
 clear x0 x1 x2 x3 f0 f1 f2 f3 y0 y1 y2 y3 g0 g1 g2 g3
 have d2:=set4 (block_set (i:=1) (x:=.slice none 0 0) (block_set (i:=0) (x:=.slice ra n3 rc) d1 hn2) hn2) (.slice ra n3 rc) (.slice none 0 0) (.slice ma s.answers.length mc) (.slice na s.past.length nc)
 obtain ⟨q0,q1,q2,q3,-⟩:=box4 d2
 have hle:=HLE.out
 have hz0:=HZ0.out
 have m2:=ext_set4 ((ew.setCell (p:=⟨w1.heap.size,0,none⟩) (by show w.heap.size ≤ w1.heap.size; omega) (.slice ra n3 rc)).setCell (p:=⟨w1.heap.size,1,none⟩) (by show w.heap.size ≤ w1.heap.size; omega) (.slice none 0 0)) (b:=w.heap.size + 1) (by omega) (.slice ra n3 rc) (.slice none 0 0) (.slice ma s.answers.length mc) (.slice na s.past.length nc)
 refine bodyPost_ret (by simp [results,Try.results23,go_sem,q0,q1,q2,q3]; rfl) rfl ?_
 refine ⟨_,rfl,m2,Rd.widen (A:=A) (agg_rd (st_rd (s:=backSt s) ?_ ?_ ?_ ?_)) (fun k _ h=>.inr (by have:=((HA.out k).1 h).1; omega))⟩
 ·exact ((K5.out.set ng _ _).set ng _ _).set4 n1 _ _ _ _
 ·exact Rd.all fun w=>writes_nil w
 ·exact ((K6.out.set ng _ _).set ng _ _).set4 n1 _ _ _ _
 ·exact ((K7.out.set ng _ _).set ng _ _).set4 n1 _ _ _ _

end Go.Proofs.Ytdmipnnfoolelad

namespace Go.Proofs.Ytdmipnnfoolelad
open Go.RowKit Go.Mk

set_option maxRecDepth 100000 in
set_option maxHeartbeats 400000 in
theorem Pause_any (n : Int) (w : World) : Gives Try.prog 14 #[I n] w fun r _=>r = I (pauseOf n):=by
 unfold Gives
 have HP : Hid (pauseOf n = if n ≤ 1 then 1 else if 3 ≤ n then 3 else n):=by
  unfold Hid pauseOf
  repeat' split
  all_goals omega
 generalize pauseOf n = pn at *
 by_cases h1 : n ≤ 1
 ·obtain rfl : pn = 1:=by have q:=HP.out; rw [if_pos h1] at q; exact q
  go_enter Try.func14,Try.ntmps14
  go_wp2
  go_ret
  refine ⟨_,rfl,Ext.refl _,?_⟩
  simp <;> omega
 ·by_cases h3 : 3 ≤ n
  ·obtain rfl : pn = 3:=by have q:=HP.out; rw [if_neg h1,if_pos h3] at q; exact q
   go_enter Try.func14,Try.ntmps14
   go_wp2
   go_ret
   refine ⟨?_,Ext.refl _⟩
   show Ending.returned (Value.int IntKind.i64 (min (max n 1) 3)) = _
   rw [show min (max n 1) 3 = (3 : Int) by omega]
  ·obtain rfl : pn = n:=by have q:=HP.out; rw [if_neg h1,if_neg h3] at q; exact q
   go_enter Try.func14,Try.ntmps14
   go_wp2
   go_ret
   refine ⟨?_,Ext.refl _⟩
   show Ending.returned (Value.int IntKind.i64 (min (max pn 1) 3)) = _
   rw [show min (max pn 1) 3 = pn by omega]

set_option maxRecDepth 100000 in
set_option maxHeartbeats 400000 in
theorem empty_any (gen : Int) (w : World) : Gives Try.prog 21 #[I gen] w fun r _=>r = .agg #[I gen,.slice none 0 0,.bool false,I 0,I 0,I 0,I 0,I 0,I 0,.slice none 0 0,I 0,I 0]:=by
 unfold Gives
 have EW:=Lib.hid (Ext.refl w)
 go_enter Try.func21,Try.ntmps21
 go_wp2_with ((with_reducible refine zst (L:=[43,40,30,67]) ?_ ?_); exact rfl)
 unfold Hid
 refine wpList_allocB rfl 40 #[I 0,.slice none 0 0,.bool false,I 0,I 0,I 0,I 0,I 0,I 0,.slice none 0 0,I 0,I 0] (by kernel_rfl) (fun b0 w1_ M1=>?_)
 have B_b0:=zmb M1
 replace EW:=zet EW M1
 have O_b0 : Hid (w.heap.size ≤ b0):=by unfold Hid; have q:=M1.out.at_; omega
 go_wp2_with ((with_reducible refine zst (L:=[43,40,30,67]) ?_ ?_); exact rfl)
 unfold Hid
 refine wpList_buildB rfl 40 #[(0,.tmp 3)] rfl #[I gen,.slice none 0 0,.bool false,I 0,I 0,I 0,I 0,I 0,I 0,.slice none 0 0,I 0,I 0] (by kernel_rfl) (fun v4 H_v4=>?_)
 go_wp2_with ((with_reducible refine zst (L:=[43,40,30,67]) ?_ ?_); exact rfl)
 unfold Hid
 refine wpList_storeW rfl 40 (.tmp 2) (.tmp 4) rfl b0 rfl _ (zcv H_v4) B_b0 rfl (by kernel_rfl) rfl (fun w2_ M2=>?_)
 replace B_b0:=zwb M2
 replace EW:=zwe M2 EW O_b0
 go_wp2
 have z0:=run_box (P:=Try.prog) 40 B_b0.out Try.underlying40 (by kernel_rfl)
 refine bodyPost_ret (by simp [results,Try.results21,asAddr,z0,Act.put]; rfl) rfl ?_
 exact ⟨_,rfl,EW.out,rfl⟩

set_option maxRecDepth 100000 in
set_option maxHeartbeats 2000000 in
theorem FallG_keeps (m : Mc) (c u a p box plan cl : Value) (w : World) (A : Nat → Prop) (h : RdM A w m c u a p box plan cl) (hs : SmallM m) (hf : 0 ≤ m.falls) :
  Keeps Try.prog 8 #[.agg (cells20 m c u a p box plan cl).toArray] w (fun _=>False) (fun r w'=>TupE elMc (fallM m).1 (fallM m).2 r w'):=by
 unfold Keeps
 obtain ⟨ca,cc,ua,uc,aa,ac,pa,pc,xa,xc,la,lc,ka,kc,rfl,rfl,rfl,rfl,rfl,rfl,rfl⟩:=h.slices
 obtain ⟨⟨sc,su,sa,sp⟩,⟨gen,bl,busy,⟨nc,nt,⟨nk,na,no,nn⟩⟩,pl,⟨se,sn⟩⟩,up,pause,falls,cls⟩:=m
 simp only [cells20] at *
 have H:=Lib.hid h
 have HS:=Lib.hid hs
 clear h hs
 have EW:=Lib.hid (Ext.refl w)
 obtain ⟨B,hB⟩:=away (fun _=>False) w.heap.size 2
 have HK:=Lib.hid hB
 clear hB
 cases up
 case false =>
  have hX : fallM ⟨⟨sc,su,sa,sp⟩,⟨gen,bl,busy,⟨nc,nt,⟨nk,na,no,nn⟩⟩,pl,⟨se,sn⟩⟩,false,pause,falls,cls⟩ = (⟨⟨sc,su,sa,sp⟩,⟨gen,bl,busy,⟨nc,nt,⟨nk,na,no,nn⟩⟩,pl,⟨se,sn⟩⟩,false,pause,falls,cls⟩,11):=rfl
  rw [hX]
  clear hX
  go_enter Try.func8,Try.ntmps8
  go_wp2_with ((with_reducible refine zst (L:=[43,40,30,67]) ?_ ?_); exact rfl)
  unfold Hid
  refine wpList_boxB rfl 43 (.tmp 0) rfl #[.slice ca sc.length cc,.slice ua su.length uc,.slice aa sa.length ac,.slice pa sp.length pc,I gen,.slice xa bl.length xc,.bool busy,I nc,I nt,I nk,I na,I no,I nn,.slice la pl.length lc,I se,I sn,.bool false,I pause,I falls,.slice ka cls.length kc] rfl (fun b0 w1_ M1=>?_)
  have B_b0:=zmb M1
  replace EW:=zet EW M1
  go_wp2_with ((with_reducible refine zst (L:=[43,40,30,67]) ?_ ?_); exact rfl)
  unfold Hid
  refine wpList_allocB rfl 43 #[.slice none 0 0,.slice none 0 0,.slice none 0 0,.slice none 0 0,I 0,.slice none 0 0,.bool false,I 0,I 0,I 0,I 0,I 0,I 0,.slice none 0 0,I 0,I 0,.bool false,I 0,I 0,.slice none 0 0] (by kernel_rfl) (fun b1 w2_ M2=>?_)
  have D_b0_b1:=zld B_b0 M2
  replace B_b0:=zmo M2 B_b0
  have B_b1:=zmb M2
  replace EW:=zet EW M2
  have A_b0 : Hid (b0 = w.heap.size + 0):=by unfold Hid; have q0:=M1.out.at_; have r0:=M1.out.size; omega
  have N_b0:=znb HK A_b0 (by decide)
  have O_b0:=zob A_b0
  have A_b1 : Hid (b1 = w.heap.size + 1):=by unfold Hid; have q0:=M1.out.at_; have r0:=M1.out.size; have q1:=M2.out.at_; have r1:=M2.out.size; omega
  have N_b1:=znb HK A_b1 (by decide)
  have O_b1:=zob A_b1
  go_wp2_with ((with_reducible refine zst (L:=[43,40,30,67]) ?_ ?_); exact rfl)
  unfold Hid
  refine wpList_loadW rfl 43 (.tmp 1) rfl b0 rfl B_b0 Try.underlying43 (by kernel_rfl) (fun v5 H_v5=>?_)
  go_wp2_with fail
  rw [show _ = Value.agg #[.slice ca sc.length cc,.slice ua su.length uc,.slice aa sa.length ac,.slice pa sp.length pc,I gen,.slice xa bl.length xc,.bool busy,I nc,I nt,I nk,I na,I no,I nn,.slice la pl.length lc,I se,I sn,.bool false,I pause,I falls,.slice ka cls.length kc] from H_v5.out]
  clear H_v5
  have hin : ∀ k,w2_.heap.size ≤ k → B k:=fun k h=>HK.out.2.1 k (by have q:=(Array.getElem?_eq_some_iff.1 B_b1.out).1; have q2:=A_b1.out; omega)
  refine (OwnM_keeps ⟨⟨sc,su,sa,sp⟩,⟨gen,bl,busy,⟨nc,nt,⟨nk,na,no,nn⟩⟩,pl,⟨se,sn⟩⟩,false,pause,falls,cls⟩ _ _ _ _ _ _ _ w2_ A (H.out.ext EW.out) HS.out).to fun r wa ea hr=>?_
  obtain ⟨cs,rfl,hcs⟩:=rd_agg hr
  obtain ⟨c',u',a',p',box',plan',cl',rfl,hM⟩:=rd_mc hcs
  obtain ⟨ca1,cc1,ua1,uc1,aa1,ac1,pa1,pc1,xa1,xc1,la1,lc1,ka1,kc1,rfl,rfl,rfl,rfl,rfl,rfl,rfl⟩:=hM.slices
  have H1:=Lib.hid (hM.widen (B:=B) fun k _ h=>hin k (by rcases h with h | h; exact h.elim; exact h))
  clear hr hcs hM hin
  replace B_b0:=zbx B_b0 ea
  replace B_b1:=zbx B_b1 ea
  replace EW:=Lib.hid (EW.out.trans ea)
  clear ea
  go_wp2_with ((with_reducible refine zst (L:=[43,40,30,67]) ?_ ?_); exact rfl)
  unfold Hid
  refine wpList_allocB rfl 43 #[.slice none 0 0,.slice none 0 0,.slice none 0 0,.slice none 0 0,I 0,.slice none 0 0,.bool false,I 0,I 0,I 0,I 0,I 0,I 0,.slice none 0 0,I 0,I 0,.bool false,I 0,I 0,.slice none 0 0] (by kernel_rfl) (fun b4 w3_ M3=>?_)
  have D_b0_b4:=zld B_b0 M3
  have D_b1_b4:=zld B_b1 M3
  obtain ⟨B1,HB1⟩ : ∃ X : Nat → Prop,Hid (∀ k,X k ↔ (B k ∧ k ≠ b4)):=⟨_,fun _=>Iff.rfl⟩
  replace H1:=Lib.hid (H1.out.widen (B:=B1) (fun k hk h=>(HB1.out k).2 ⟨h,by have q2:=M3.out.at_; omega⟩))
  replace N_b0:=znw HB1 N_b0
  replace N_b1:=znw HB1 N_b1
  have N_b4 : Hid (¬ B1 b4):=fun h=>((HB1.out _).1 h).2 rfl
  have I_B1 : Hid (∀ k,B1 k → B k):=fun k h=>((HB1.out k).1 h).1
  have O_b4 : Hid (w.heap.size ≤ b4):=by unfold Hid; have q2:=M3.out.at_; have q3:=EW.out.size; omega
  replace B_b0:=zmo M3 B_b0
  replace B_b1:=zmo M3 B_b1
  have B_b4:=zmb M3
  replace H1:=Lib.hid (H1.out.ext M3.out.ext)
  replace EW:=zet EW M3
  go_wp2_with ((with_reducible refine zst (L:=[43,40,30,67]) ?_ ?_); exact rfl)
  unfold Hid
  refine wpList_storeW rfl 43 (.tmp 4) (.tmp 6) rfl b4 rfl [.slice ca1 sc.length cc1,.slice ua1 su.length uc1,.slice aa1 sa.length ac1,.slice pa1 sp.length pc1,I gen,.slice xa1 bl.length xc1,.bool busy,I nc,I nt,I nk,I na,I no,I nn,.slice la1 pl.length lc1,I se,I sn,.bool false,I pause,I falls,.slice ka1 cls.length kc1] (rfl) B_b4 rfl (by kernel_rfl) rfl (fun w4_ M4=>?_)
  replace B_b0:=zwl M4 B_b0 D_b0_b4
  replace B_b1:=zwl M4 B_b1 D_b1_b4
  replace B_b4:=zwb M4
  replace H1:=Lib.hid (M4.out.rdM H1.out N_b4.out)
  replace EW:=zwe M4 EW O_b4
  have c16:=cell_of (i:=16) B_b0.out rfl
  go_wp2_with ((with_reducible refine zst (L:=[43,40,30,67]) ?_ ?_); exact rfl)
  unfold Hid
  clear c16
  refine wpList_loadW rfl 43 (.tmp 4) rfl b4 rfl B_b4 Try.underlying43 (by kernel_rfl) (fun v11 H_v11=>?_)
  go_wp2_with ((with_reducible refine zst (L:=[43,40,30,67]) ?_ ?_); exact rfl)
  unfold Hid
  refine wpList_storeW rfl 43 (.tmp 2) (.tmp 11) rfl b1 rfl _ (zcv H_v11) B_b1 rfl (by kernel_rfl) rfl (fun w5_ M5=>?_)
  replace B_b0:=zwl M5 B_b0 D_b0_b1
  replace B_b1:=zwb M5
  replace B_b4:=zwg M5 B_b4 D_b1_b4
  replace H1:=Lib.hid (M5.out.rdM H1.out N_b1.out)
  replace EW:=zwe M5 EW O_b1
  go_wp2
  have z0:=run_box (P:=Try.prog) 43 B_b1.out Try.underlying43 (by kernel_rfl)
  refine bodyPost_ret (by simp [results,Try.results8,asAddr,z0]; rfl) rfl ?_
  exact ⟨_,rfl,EW.out,Rd.widen (tupE_rd (RdM.mc (m:=⟨⟨sc,su,sa,sp⟩,⟨gen,bl,busy,⟨nc,nt,⟨nk,na,no,nn⟩⟩,pl,⟨se,sn⟩⟩,false,pause,falls,cls⟩) H1.out)) (fun k _ h=>HK.out.2.2.2 k (I_B1.out k h))⟩
 by_cases h6 : 6 ≤ falls
 case pos =>
  have hX : fallM ⟨⟨sc,su,sa,sp⟩,⟨gen,bl,busy,⟨nc,nt,⟨nk,na,no,nn⟩⟩,pl,⟨se,sn⟩⟩,true,pause,falls,cls⟩ = (⟨⟨sc,su,sa,sp⟩,⟨gen,bl,busy,⟨nc,nt,⟨nk,na,no,nn⟩⟩,pl,⟨se,sn⟩⟩,true,pause,falls,cls⟩,5):=by
   show (if ¬ (true = true) then _ else if 6 ≤ falls then _ else _) = _
   rw [if_neg (by simp),if_pos h6]
  rw [hX]
  clear hX
  go_enter Try.func8,Try.ntmps8
  go_wp2_with ((with_reducible refine zst (L:=[43,40,30,67]) ?_ ?_); exact rfl)
  unfold Hid
  refine wpList_boxB rfl 43 (.tmp 0) rfl #[.slice ca sc.length cc,.slice ua su.length uc,.slice aa sa.length ac,.slice pa sp.length pc,I gen,.slice xa bl.length xc,.bool busy,I nc,I nt,I nk,I na,I no,I nn,.slice la pl.length lc,I se,I sn,.bool true,I pause,I falls,.slice ka cls.length kc] rfl (fun b0 w1_ M1=>?_)
  have B_b0:=zmb M1
  replace EW:=zet EW M1
  go_wp2_with ((with_reducible refine zst (L:=[43,40,30,67]) ?_ ?_); exact rfl)
  unfold Hid
  refine wpList_allocB rfl 43 #[.slice none 0 0,.slice none 0 0,.slice none 0 0,.slice none 0 0,I 0,.slice none 0 0,.bool false,I 0,I 0,I 0,I 0,I 0,I 0,.slice none 0 0,I 0,I 0,.bool false,I 0,I 0,.slice none 0 0] (by kernel_rfl) (fun b1 w2_ M2=>?_)
  have D_b0_b1:=zld B_b0 M2
  replace B_b0:=zmo M2 B_b0
  have B_b1:=zmb M2
  replace EW:=zet EW M2
  have A_b0 : Hid (b0 = w.heap.size + 0):=by unfold Hid; have q0:=M1.out.at_; have r0:=M1.out.size; omega
  have N_b0:=znb HK A_b0 (by decide)
  have O_b0:=zob A_b0
  have A_b1 : Hid (b1 = w.heap.size + 1):=by unfold Hid; have q0:=M1.out.at_; have r0:=M1.out.size; have q1:=M2.out.at_; have r1:=M2.out.size; omega
  have N_b1:=znb HK A_b1 (by decide)
  have O_b1:=zob A_b1
  go_wp2_with ((with_reducible refine zst (L:=[43,40,30,67]) ?_ ?_); exact rfl)
  unfold Hid
  refine wpList_loadW rfl 43 (.tmp 1) rfl b0 rfl B_b0 Try.underlying43 (by kernel_rfl) (fun v5 H_v5=>?_)
  go_wp2_with fail
  rw [show _ = Value.agg #[.slice ca sc.length cc,.slice ua su.length uc,.slice aa sa.length ac,.slice pa sp.length pc,I gen,.slice xa bl.length xc,.bool busy,I nc,I nt,I nk,I na,I no,I nn,.slice la pl.length lc,I se,I sn,.bool true,I pause,I falls,.slice ka cls.length kc] from H_v5.out]
  clear H_v5
  have hin : ∀ k,w2_.heap.size ≤ k → B k:=fun k h=>HK.out.2.1 k (by have q:=(Array.getElem?_eq_some_iff.1 B_b1.out).1; have q2:=A_b1.out; omega)
  refine (OwnM_keeps ⟨⟨sc,su,sa,sp⟩,⟨gen,bl,busy,⟨nc,nt,⟨nk,na,no,nn⟩⟩,pl,⟨se,sn⟩⟩,true,pause,falls,cls⟩ _ _ _ _ _ _ _ w2_ A (H.out.ext EW.out) HS.out).to fun r wa ea hr=>?_
  obtain ⟨cs,rfl,hcs⟩:=rd_agg hr
  obtain ⟨c',u',a',p',box',plan',cl',rfl,hM⟩:=rd_mc hcs
  obtain ⟨ca1,cc1,ua1,uc1,aa1,ac1,pa1,pc1,xa1,xc1,la1,lc1,ka1,kc1,rfl,rfl,rfl,rfl,rfl,rfl,rfl⟩:=hM.slices
  have H1:=Lib.hid (hM.widen (B:=B) fun k _ h=>hin k (by rcases h with h | h; exact h.elim; exact h))
  clear hr hcs hM hin
  replace B_b0:=zbx B_b0 ea
  replace B_b1:=zbx B_b1 ea
  replace EW:=Lib.hid (EW.out.trans ea)
  clear ea
  go_wp2_with ((with_reducible refine zst (L:=[43,40,30,67]) ?_ ?_); exact rfl)
  unfold Hid
  refine wpList_allocB rfl 43 #[.slice none 0 0,.slice none 0 0,.slice none 0 0,.slice none 0 0,I 0,.slice none 0 0,.bool false,I 0,I 0,I 0,I 0,I 0,I 0,.slice none 0 0,I 0,I 0,.bool false,I 0,I 0,.slice none 0 0] (by kernel_rfl) (fun b4 w3_ M3=>?_)
  have D_b0_b4:=zld B_b0 M3
  have D_b1_b4:=zld B_b1 M3
  obtain ⟨B1,HB1⟩ : ∃ X : Nat → Prop,Hid (∀ k,X k ↔ (B k ∧ k ≠ b4)):=⟨_,fun _=>Iff.rfl⟩
  replace H1:=Lib.hid (H1.out.widen (B:=B1) (fun k hk h=>(HB1.out k).2 ⟨h,by have q2:=M3.out.at_; omega⟩))
  replace N_b0:=znw HB1 N_b0
  replace N_b1:=znw HB1 N_b1
  have N_b4 : Hid (¬ B1 b4):=fun h=>((HB1.out _).1 h).2 rfl
  have I_B1 : Hid (∀ k,B1 k → B k):=fun k h=>((HB1.out k).1 h).1
  have O_b4 : Hid (w.heap.size ≤ b4):=by unfold Hid; have q2:=M3.out.at_; have q3:=EW.out.size; omega
  replace B_b0:=zmo M3 B_b0
  replace B_b1:=zmo M3 B_b1
  have B_b4:=zmb M3
  replace H1:=Lib.hid (H1.out.ext M3.out.ext)
  replace EW:=zet EW M3
  go_wp2_with ((with_reducible refine zst (L:=[43,40,30,67]) ?_ ?_); exact rfl)
  unfold Hid
  refine wpList_storeW rfl 43 (.tmp 4) (.tmp 6) rfl b4 rfl [.slice ca1 sc.length cc1,.slice ua1 su.length uc1,.slice aa1 sa.length ac1,.slice pa1 sp.length pc1,I gen,.slice xa1 bl.length xc1,.bool busy,I nc,I nt,I nk,I na,I no,I nn,.slice la1 pl.length lc1,I se,I sn,.bool true,I pause,I falls,.slice ka1 cls.length kc1] (rfl) B_b4 rfl (by kernel_rfl) rfl (fun w4_ M4=>?_)
  replace B_b0:=zwl M4 B_b0 D_b0_b4
  replace B_b1:=zwl M4 B_b1 D_b1_b4
  replace B_b4:=zwb M4
  replace H1:=Lib.hid (M4.out.rdM H1.out N_b4.out)
  replace EW:=zwe M4 EW O_b4
  have c16:=cell_of (i:=16) B_b0.out rfl
  have c18:=cell_of (i:=18) B_b0.out rfl
  go_wp2_with ((with_reducible refine zst (L:=[43,40,30,67]) ?_ ?_); exact rfl)
  unfold Hid
  clear c16 c18
  refine wpList_loadW rfl 43 (.tmp 4) rfl b4 rfl B_b4 Try.underlying43 (by kernel_rfl) (fun v16 H_v16=>?_)
  go_wp2_with ((with_reducible refine zst (L:=[43,40,30,67]) ?_ ?_); exact rfl)
  unfold Hid
  refine wpList_storeW rfl 43 (.tmp 2) (.tmp 16) rfl b1 rfl _ (zcv H_v16) B_b1 rfl (by kernel_rfl) rfl (fun w5_ M5=>?_)
  replace B_b0:=zwl M5 B_b0 D_b0_b1
  replace B_b1:=zwb M5
  replace B_b4:=zwg M5 B_b4 D_b1_b4
  replace H1:=Lib.hid (M5.out.rdM H1.out N_b1.out)
  replace EW:=zwe M5 EW O_b1
  go_wp2
  have z0:=run_box (P:=Try.prog) 43 B_b1.out Try.underlying43 (by kernel_rfl)
  refine bodyPost_ret (by simp [results,Try.results8,asAddr,z0]; rfl) rfl ?_
  exact ⟨_,rfl,EW.out,Rd.widen (tupE_rd (RdM.mc (m:=⟨⟨sc,su,sa,sp⟩,⟨gen,bl,busy,⟨nc,nt,⟨nk,na,no,nn⟩⟩,pl,⟨se,sn⟩⟩,true,pause,falls,cls⟩) H1.out)) (fun k _ h=>HK.out.2.2.2 k (I_B1.out k h))⟩
 have hX : fallM ⟨⟨sc,su,sa,sp⟩,⟨gen,bl,busy,⟨nc,nt,⟨nk,na,no,nn⟩⟩,pl,⟨se,sn⟩⟩,true,pause,falls,cls⟩ = (⟨⟨sc,su,sa,sp⟩,idleSv gen [],false,pauseOf (falls + 1),falls + 1,cls⟩,0):=by
  show (if ¬ (true = true) then _ else if 6 ≤ falls then _ else _) = _
  rw [if_neg (by simp),if_neg h6]
 rw [hX]
 clear hX
 have h5 : falls < 6:=by omega
 have hf0 : (0 : Int) ≤ falls:=hf
 go_enter Try.func8,Try.ntmps8
 go_wp2_with ((with_reducible refine zst (L:=[43,40,30,67]) ?_ ?_); exact rfl)
 unfold Hid
 refine wpList_boxB rfl 43 (.tmp 0) rfl #[.slice ca sc.length cc,.slice ua su.length uc,.slice aa sa.length ac,.slice pa sp.length pc,I gen,.slice xa bl.length xc,.bool busy,I nc,I nt,I nk,I na,I no,I nn,.slice la pl.length lc,I se,I sn,.bool true,I pause,I falls,.slice ka cls.length kc] rfl (fun b0 w1_ M1=>?_)
 have B_b0:=zmb M1
 replace EW:=zet EW M1
 go_wp2_with ((with_reducible refine zst (L:=[43,40,30,67]) ?_ ?_); exact rfl)
 unfold Hid
 refine wpList_allocB rfl 43 #[.slice none 0 0,.slice none 0 0,.slice none 0 0,.slice none 0 0,I 0,.slice none 0 0,.bool false,I 0,I 0,I 0,I 0,I 0,I 0,.slice none 0 0,I 0,I 0,.bool false,I 0,I 0,.slice none 0 0] (by kernel_rfl) (fun b1 w2_ M2=>?_)
 have D_b0_b1:=zld B_b0 M2
 replace B_b0:=zmo M2 B_b0
 have B_b1:=zmb M2
 replace EW:=zet EW M2
 have A_b0 : Hid (b0 = w.heap.size + 0):=by unfold Hid; have q0:=M1.out.at_; have r0:=M1.out.size; omega
 have N_b0:=znb HK A_b0 (by decide)
 have O_b0:=zob A_b0
 have A_b1 : Hid (b1 = w.heap.size + 1):=by unfold Hid; have q0:=M1.out.at_; have r0:=M1.out.size; have q1:=M2.out.at_; have r1:=M2.out.size; omega
 have N_b1:=znb HK A_b1 (by decide)
 have O_b1:=zob A_b1
 go_wp2_with ((with_reducible refine zst (L:=[43,40,30,67]) ?_ ?_); exact rfl)
 unfold Hid
 refine wpList_loadW rfl 43 (.tmp 1) rfl b0 rfl B_b0 Try.underlying43 (by kernel_rfl) (fun v5 H_v5=>?_)
 go_wp2_with fail
 rw [show _ = Value.agg #[.slice ca sc.length cc,.slice ua su.length uc,.slice aa sa.length ac,.slice pa sp.length pc,I gen,.slice xa bl.length xc,.bool busy,I nc,I nt,I nk,I na,I no,I nn,.slice la pl.length lc,I se,I sn,.bool true,I pause,I falls,.slice ka cls.length kc] from H_v5.out]
 clear H_v5
 have hin : ∀ k,w2_.heap.size ≤ k → B k:=fun k h=>HK.out.2.1 k (by have q:=(Array.getElem?_eq_some_iff.1 B_b1.out).1; have q2:=A_b1.out; omega)
 refine (OwnM_keeps ⟨⟨sc,su,sa,sp⟩,⟨gen,bl,busy,⟨nc,nt,⟨nk,na,no,nn⟩⟩,pl,⟨se,sn⟩⟩,true,pause,falls,cls⟩ _ _ _ _ _ _ _ w2_ A (H.out.ext EW.out) HS.out).to fun r wa ea hr=>?_
 obtain ⟨cs,rfl,hcs⟩:=rd_agg hr
 obtain ⟨c',u',a',p',box',plan',cl',rfl,hM⟩:=rd_mc hcs
 obtain ⟨ca1,cc1,ua1,uc1,aa1,ac1,pa1,pc1,xa1,xc1,la1,lc1,ka1,kc1,rfl,rfl,rfl,rfl,rfl,rfl,rfl⟩:=hM.slices
 have H1:=Lib.hid (hM.widen (B:=B) fun k _ h=>hin k (by rcases h with h | h; exact h.elim; exact h))
 clear hr hcs hM hin
 replace B_b0:=zbx B_b0 ea
 replace B_b1:=zbx B_b1 ea
 replace EW:=Lib.hid (EW.out.trans ea)
 clear ea
 go_wp2_with ((with_reducible refine zst (L:=[43,40,30,67]) ?_ ?_); exact rfl)
 unfold Hid
 refine wpList_allocB rfl 43 #[.slice none 0 0,.slice none 0 0,.slice none 0 0,.slice none 0 0,I 0,.slice none 0 0,.bool false,I 0,I 0,I 0,I 0,I 0,I 0,.slice none 0 0,I 0,I 0,.bool false,I 0,I 0,.slice none 0 0] (by kernel_rfl) (fun b4 w3_ M3=>?_)
 have D_b0_b4:=zld B_b0 M3
 have D_b1_b4:=zld B_b1 M3
 obtain ⟨B1,HB1⟩ : ∃ X : Nat → Prop,Hid (∀ k,X k ↔ (B k ∧ k ≠ b4)):=⟨_,fun _=>Iff.rfl⟩
 replace H1:=Lib.hid (H1.out.widen (B:=B1) (fun k hk h=>(HB1.out k).2 ⟨h,by have q2:=M3.out.at_; omega⟩))
 replace N_b0:=znw HB1 N_b0
 replace N_b1:=znw HB1 N_b1
 have N_b4 : Hid (¬ B1 b4):=fun h=>((HB1.out _).1 h).2 rfl
 have I_B1 : Hid (∀ k,B1 k → B k):=fun k h=>((HB1.out k).1 h).1
 have O_b4 : Hid (w.heap.size ≤ b4):=by unfold Hid; have q2:=M3.out.at_; have q3:=EW.out.size; omega
 replace B_b0:=zmo M3 B_b0
 replace B_b1:=zmo M3 B_b1
 have B_b4:=zmb M3
 replace H1:=Lib.hid (H1.out.ext M3.out.ext)
 replace EW:=zet EW M3
 go_wp2_with ((with_reducible refine zst (L:=[43,40,30,67]) ?_ ?_); exact rfl)
 unfold Hid
 refine wpList_storeW rfl 43 (.tmp 4) (.tmp 6) rfl b4 rfl [.slice ca1 sc.length cc1,.slice ua1 su.length uc1,.slice aa1 sa.length ac1,.slice pa1 sp.length pc1,I gen,.slice xa1 bl.length xc1,.bool busy,I nc,I nt,I nk,I na,I no,I nn,.slice la1 pl.length lc1,I se,I sn,.bool true,I pause,I falls,.slice ka1 cls.length kc1] (rfl) B_b4 rfl (by kernel_rfl) rfl (fun w4_ M4=>?_)
 replace B_b0:=zwl M4 B_b0 D_b0_b4
 replace B_b1:=zwl M4 B_b1 D_b1_b4
 replace B_b4:=zwb M4
 replace H1:=Lib.hid (M4.out.rdM H1.out N_b4.out)
 replace EW:=zwe M4 EW O_b4
 have c16:=cell_of (i:=16) B_b0.out rfl
 have c18:=cell_of (i:=18) B_b0.out rfl
 have d18:=cell_of (i:=18) B_b4.out rfl
 go_wp2_with ((with_reducible refine zst (L:=[43,40,30,67]) ?_ ?_); exact rfl)
 unfold Hid
 clear c16 c18 d18
 refine wpList_storeP rfl 3 (.tmp 20) (.tmp 19) rfl b4 18 rfl [I (falls + 1)] (rfl) B_b4 rfl (by kernel_rfl) rfl [.slice ca1 sc.length cc1,.slice ua1 su.length uc1,.slice aa1 sa.length ac1,.slice pa1 sp.length pc1,I gen,.slice xa1 bl.length xc1,.bool busy,I nc,I nt,I nk,I na,I no,I nn,.slice la1 pl.length lc1,I se,I sn,.bool true,I pause,I (falls + 1),.slice ka1 cls.length kc1] rfl (fun w5_ M5=>?_)
 replace B_b0:=zwl M5 B_b0 D_b0_b4
 replace B_b1:=zwl M5 B_b1 D_b1_b4
 replace B_b4:=zwb M5
 replace H1:=Lib.hid (M5.out.rdM H1.out N_b4.out)
 replace EW:=zwe M5 EW O_b4
 have d18:=cell_of (i:=18) B_b4.out rfl
 go_wp2_with fail
 clear d18
 refine (Pause_any (falls + 1) w5_).to fun r wb eb hr=>?_
 subst hr
 replace B_b0:=zbx B_b0 eb
 replace B_b1:=zbx B_b1 eb
 replace B_b4:=zbx B_b4 eb
 replace H1:=Lib.hid (H1.out.ext eb)
 replace EW:=Lib.hid (EW.out.trans eb)
 clear eb
 generalize hpn : pauseOf (falls + 1) = pn at *
 have HPN:=Lib.hid hpn
 clear hpn
 go_wp2_with ((with_reducible refine zst (L:=[43,40,30,67]) ?_ ?_); exact rfl)
 unfold Hid
 refine wpList_storeP rfl 4 (.tmp 24) (.const (.bool false)) rfl b4 16 rfl [.bool false] (rfl) B_b4 rfl (by kernel_rfl) rfl [.slice ca1 sc.length cc1,.slice ua1 su.length uc1,.slice aa1 sa.length ac1,.slice pa1 sp.length pc1,I gen,.slice xa1 bl.length xc1,.bool busy,I nc,I nt,I nk,I na,I no,I nn,.slice la1 pl.length lc1,I se,I sn,.bool false,I pause,I (falls + 1),.slice ka1 cls.length kc1] rfl (fun w6_ M6=>?_)
 replace B_b0:=zwl M6 B_b0 D_b0_b4
 replace B_b1:=zwl M6 B_b1 D_b1_b4
 replace B_b4:=zwb M6
 replace H1:=Lib.hid (M6.out.rdM H1.out N_b4.out)
 replace EW:=zwe M6 EW O_b4
 go_wp2_with ((with_reducible refine zst (L:=[43,40,30,67]) ?_ ?_); exact rfl)
 unfold Hid
 refine wpList_storeP rfl 3 (.tmp 25) (.tmp 23) rfl b4 17 rfl [I pn] (rfl) B_b4 rfl (by kernel_rfl) rfl [.slice ca1 sc.length cc1,.slice ua1 su.length uc1,.slice aa1 sa.length ac1,.slice pa1 sp.length pc1,I gen,.slice xa1 bl.length xc1,.bool busy,I nc,I nt,I nk,I na,I no,I nn,.slice la1 pl.length lc1,I se,I sn,.bool false,I pn,I (falls + 1),.slice ka1 cls.length kc1] rfl (fun w7_ M7=>?_)
 replace B_b0:=zwl M7 B_b0 D_b0_b4
 replace B_b1:=zwl M7 B_b1 D_b1_b4
 replace B_b4:=zwb M7
 replace H1:=Lib.hid (M7.out.rdM H1.out N_b4.out)
 replace EW:=zwe M7 EW O_b4
 have c4:=cell_of (i:=4) B_b0.out rfl
 go_wp2_with fail
 clear c4
 refine (empty_any gen w7_).to fun r wc ec hr=>?_
 subst hr
 replace B_b0:=zbx B_b0 ec
 replace B_b1:=zbx B_b1 ec
 replace B_b4:=zbx B_b4 ec
 replace H1:=Lib.hid (H1.out.ext ec)
 replace EW:=Lib.hid (EW.out.trans ec)
 clear ec
 go_wp2_with ((with_reducible refine zst (L:=[43,40,30,67]) ?_ ?_); exact rfl)
 unfold Hid
 refine wpList_storeP rfl 40 (.tmp 30) (.tmp 29) rfl b4 4 rfl [I gen,.slice none 0 0,.bool false,I 0,I 0,I 0,I 0,I 0,I 0,.slice none 0 0,I 0,I 0] (rfl) B_b4 rfl (by kernel_rfl) rfl [.slice ca1 sc.length cc1,.slice ua1 su.length uc1,.slice aa1 sa.length ac1,.slice pa1 sp.length pc1,I gen,.slice none 0 0,.bool false,I 0,I 0,I 0,I 0,I 0,I 0,.slice none 0 0,I 0,I 0,.bool false,I pn,I (falls + 1),.slice ka1 cls.length kc1] rfl (fun w8_ M8=>?_)
 replace B_b0:=zwl M8 B_b0 D_b0_b4
 replace B_b1:=zwl M8 B_b1 D_b1_b4
 replace B_b4:=zwb M8
 replace H1:=Lib.hid (M8.out.rdM H1.out N_b4.out)
 replace EW:=zwe M8 EW O_b4
 go_wp2_with ((with_reducible refine zst (L:=[43,40,30,67]) ?_ ?_); exact rfl)
 unfold Hid
 refine wpList_loadW rfl 43 (.tmp 4) rfl b4 rfl B_b4 Try.underlying43 (by kernel_rfl) (fun v31 H_v31=>?_)
 go_wp2_with ((with_reducible refine zst (L:=[43,40,30,67]) ?_ ?_); exact rfl)
 unfold Hid
 refine wpList_storeW rfl 43 (.tmp 2) (.tmp 31) rfl b1 rfl _ (zcv H_v31) B_b1 rfl (by kernel_rfl) rfl (fun w9_ M9=>?_)
 replace B_b0:=zwl M9 B_b0 D_b0_b1
 replace B_b1:=zwb M9
 replace B_b4:=zwg M9 B_b4 D_b1_b4
 replace H1:=Lib.hid (M9.out.rdM H1.out N_b1.out)
 replace EW:=zwe M9 EW O_b1
 go_wp2
 have z0:=run_box (P:=Try.prog) 43 B_b1.out Try.underlying43 (by kernel_rfl)
 refine bodyPost_ret (by simp [results,Try.results8,asAddr,z0]; rfl) rfl ?_
 have hpn:=HPN.out
 subst hpn
 exact ⟨_,rfl,EW.out,Rd.widen (tupE_rd (RdM.mc (m:=⟨⟨sc,su,sa,sp⟩,idleSv gen [],false,pauseOf (falls + 1),falls + 1,cls⟩) ⟨H1.out.cells,H1.out.undo,H1.out.answers,H1.out.past,Rd.all fun w=>RowOf.nil w,Rd.all fun w=>writes_nil w,H1.out.clients⟩)) (fun k _ h=>HK.out.2.2.2 k (I_B1.out k h))⟩

set_option maxRecDepth 100000 in
set_option maxHeartbeats 2000000 in
theorem TickG_keeps (m : Mc) (c u a p box plan cl : Value) (w : World) (A : Nat → Prop) (h : RdM A w m c u a p box plan cl) (hs : SmallM m) (hg : 0 ≤ m.server.gen ∧ m.server.gen ≤ 1000000) (hpz : m.up = false → 1 ≤ m.pause ∧ m.pause ≤ 1000000) :
  Keeps Try.prog 11 #[.agg (cells20 m c u a p box plan cl).toArray] w (fun _=>False) (fun r w'=>Agg elMc (tickM m) r w'):=by
 have HGN:=Lib.hid hg
 have HPZ:=Lib.hid hpz
 clear hg hpz
 unfold Keeps
 obtain ⟨ca,cc,ua,uc,aa,ac,pa,pc,xa,xc,la,lc,ka,kc,rfl,rfl,rfl,rfl,rfl,rfl,rfl⟩:=h.slices
 obtain ⟨⟨sc,su,sa,sp⟩,⟨gen,bl,busy,⟨nc,nt,⟨nk,na,no,nn⟩⟩,pl,⟨se,sn⟩⟩,up,pause,falls,cls⟩:=m
 simp only [cells20] at *
 have H:=Lib.hid h
 have HS:=Lib.hid hs
 clear h hs
 have EW:=Lib.hid (Ext.refl w)
 obtain ⟨B,hB⟩:=away (fun _=>False) w.heap.size 2
 have HK:=Lib.hid hB
 clear hB
 cases up
 case true =>
  have hX : tickM ⟨⟨sc,su,sa,sp⟩,⟨gen,bl,busy,⟨nc,nt,⟨nk,na,no,nn⟩⟩,pl,⟨se,sn⟩⟩,true,pause,falls,cls⟩ = ⟨⟨sc,su,sa,sp⟩,⟨gen,bl,busy,⟨nc,nt,⟨nk,na,no,nn⟩⟩,pl,⟨se,sn⟩⟩,true,pause,falls,cls⟩:=rfl
  rw [hX]
  clear hX
  go_enter Try.func11,Try.ntmps11
  go_wp2_with ((with_reducible refine zst (L:=[43,40,30,67]) ?_ ?_); exact rfl)
  unfold Hid
  refine wpList_boxB rfl 43 (.tmp 0) rfl #[.slice ca sc.length cc,.slice ua su.length uc,.slice aa sa.length ac,.slice pa sp.length pc,I gen,.slice xa bl.length xc,.bool busy,I nc,I nt,I nk,I na,I no,I nn,.slice la pl.length lc,I se,I sn,.bool true,I pause,I falls,.slice ka cls.length kc] rfl (fun b0 w1_ M1=>?_)
  have B_b0:=zmb M1
  replace EW:=zet EW M1
  go_wp2_with ((with_reducible refine zst (L:=[43,40,30,67]) ?_ ?_); exact rfl)
  unfold Hid
  refine wpList_allocB rfl 43 #[.slice none 0 0,.slice none 0 0,.slice none 0 0,.slice none 0 0,I 0,.slice none 0 0,.bool false,I 0,I 0,I 0,I 0,I 0,I 0,.slice none 0 0,I 0,I 0,.bool false,I 0,I 0,.slice none 0 0] (by kernel_rfl) (fun b1 w2_ M2=>?_)
  have D_b0_b1:=zld B_b0 M2
  replace B_b0:=zmo M2 B_b0
  have B_b1:=zmb M2
  replace EW:=zet EW M2
  have A_b0 : Hid (b0 = w.heap.size + 0):=by unfold Hid; have q0:=M1.out.at_; have r0:=M1.out.size; omega
  have N_b0:=znb HK A_b0 (by decide)
  have O_b0:=zob A_b0
  have A_b1 : Hid (b1 = w.heap.size + 1):=by unfold Hid; have q0:=M1.out.at_; have r0:=M1.out.size; have q1:=M2.out.at_; have r1:=M2.out.size; omega
  have N_b1:=znb HK A_b1 (by decide)
  have O_b1:=zob A_b1
  go_wp2_with ((with_reducible refine zst (L:=[43,40,30,67]) ?_ ?_); exact rfl)
  unfold Hid
  refine wpList_loadW rfl 43 (.tmp 1) rfl b0 rfl B_b0 Try.underlying43 (by kernel_rfl) (fun v4 H_v4=>?_)
  go_wp2_with fail
  rw [show _ = Value.agg #[.slice ca sc.length cc,.slice ua su.length uc,.slice aa sa.length ac,.slice pa sp.length pc,I gen,.slice xa bl.length xc,.bool busy,I nc,I nt,I nk,I na,I no,I nn,.slice la pl.length lc,I se,I sn,.bool true,I pause,I falls,.slice ka cls.length kc] from H_v4.out]
  clear H_v4
  have hin : ∀ k,w2_.heap.size ≤ k → B k:=fun k h=>HK.out.2.1 k (by have q:=(Array.getElem?_eq_some_iff.1 B_b1.out).1; have q2:=A_b1.out; omega)
  refine (OwnM_keeps ⟨⟨sc,su,sa,sp⟩,⟨gen,bl,busy,⟨nc,nt,⟨nk,na,no,nn⟩⟩,pl,⟨se,sn⟩⟩,true,pause,falls,cls⟩ _ _ _ _ _ _ _ w2_ A (H.out.ext EW.out) HS.out).to fun r wa ea hr=>?_
  obtain ⟨cs,rfl,hcs⟩:=rd_agg hr
  obtain ⟨c',u',a',p',box',plan',cl',rfl,hM⟩:=rd_mc hcs
  obtain ⟨ca1,cc1,ua1,uc1,aa1,ac1,pa1,pc1,xa1,xc1,la1,lc1,ka1,kc1,rfl,rfl,rfl,rfl,rfl,rfl,rfl⟩:=hM.slices
  have H1:=Lib.hid (hM.widen (B:=B) fun k _ h=>hin k (by rcases h with h | h; exact h.elim; exact h))
  clear hr hcs hM hin
  replace B_b0:=zbx B_b0 ea
  replace B_b1:=zbx B_b1 ea
  replace EW:=Lib.hid (EW.out.trans ea)
  clear ea
  go_wp2_with ((with_reducible refine zst (L:=[43,40,30,67]) ?_ ?_); exact rfl)
  unfold Hid
  refine wpList_allocB rfl 43 #[.slice none 0 0,.slice none 0 0,.slice none 0 0,.slice none 0 0,I 0,.slice none 0 0,.bool false,I 0,I 0,I 0,I 0,I 0,I 0,.slice none 0 0,I 0,I 0,.bool false,I 0,I 0,.slice none 0 0] (by kernel_rfl) (fun b3 w3_ M3=>?_)
  have D_b0_b3:=zld B_b0 M3
  have D_b1_b3:=zld B_b1 M3
  obtain ⟨B1,HB1⟩ : ∃ X : Nat → Prop,Hid (∀ k,X k ↔ (B k ∧ k ≠ b3)):=⟨_,fun _=>Iff.rfl⟩
  replace H1:=Lib.hid (H1.out.widen (B:=B1) (fun k hk h=>(HB1.out k).2 ⟨h,by have q2:=M3.out.at_; omega⟩))
  replace N_b0:=znw HB1 N_b0
  replace N_b1:=znw HB1 N_b1
  have N_b3 : Hid (¬ B1 b3):=fun h=>((HB1.out _).1 h).2 rfl
  have I_B1 : Hid (∀ k,B1 k → B k):=fun k h=>((HB1.out k).1 h).1
  have O_b3 : Hid (w.heap.size ≤ b3):=by unfold Hid; have q2:=M3.out.at_; have q3:=EW.out.size; omega
  replace B_b0:=zmo M3 B_b0
  replace B_b1:=zmo M3 B_b1
  have B_b3:=zmb M3
  replace H1:=Lib.hid (H1.out.ext M3.out.ext)
  replace EW:=zet EW M3
  go_wp2_with ((with_reducible refine zst (L:=[43,40,30,67]) ?_ ?_); exact rfl)
  unfold Hid
  refine wpList_storeW rfl 43 (.tmp 3) (.tmp 5) rfl b3 rfl [.slice ca1 sc.length cc1,.slice ua1 su.length uc1,.slice aa1 sa.length ac1,.slice pa1 sp.length pc1,I gen,.slice xa1 bl.length xc1,.bool busy,I nc,I nt,I nk,I na,I no,I nn,.slice la1 pl.length lc1,I se,I sn,.bool true,I pause,I falls,.slice ka1 cls.length kc1] (rfl) B_b3 rfl (by kernel_rfl) rfl (fun w4_ M4=>?_)
  replace B_b0:=zwl M4 B_b0 D_b0_b3
  replace B_b1:=zwl M4 B_b1 D_b1_b3
  replace B_b3:=zwb M4
  replace H1:=Lib.hid (M4.out.rdM H1.out N_b3.out)
  replace EW:=zwe M4 EW O_b3
  have c16:=cell_of (i:=16) B_b0.out rfl
  go_wp2_with ((with_reducible refine zst (L:=[43,40,30,67]) ?_ ?_); exact rfl)
  unfold Hid
  clear c16
  refine wpList_loadW rfl 43 (.tmp 3) rfl b3 rfl B_b3 Try.underlying43 (by kernel_rfl) (fun v8 H_v8=>?_)
  go_wp2_with ((with_reducible refine zst (L:=[43,40,30,67]) ?_ ?_); exact rfl)
  unfold Hid
  refine wpList_storeW rfl 43 (.tmp 2) (.tmp 8) rfl b1 rfl _ (zcv H_v8) B_b1 rfl (by kernel_rfl) rfl (fun w5_ M5=>?_)
  replace B_b0:=zwl M5 B_b0 D_b0_b1
  replace B_b1:=zwb M5
  replace B_b3:=zwg M5 B_b3 D_b1_b3
  replace H1:=Lib.hid (M5.out.rdM H1.out N_b1.out)
  replace EW:=zwe M5 EW O_b1
  go_wp2
  have z0:=run_box (P:=Try.prog) 43 B_b1.out Try.underlying43 (by kernel_rfl)
  refine bodyPost_ret (by simp [results,Try.results11,asAddr,z0,Act.put]; rfl) rfl ?_
  exact ⟨_,rfl,EW.out,Rd.widen (agg_rd (RdM.mc (m:=⟨⟨sc,su,sa,sp⟩,⟨gen,bl,busy,⟨nc,nt,⟨nk,na,no,nn⟩⟩,pl,⟨se,sn⟩⟩,true,pause,falls,cls⟩) H1.out)) (fun k _ h=>HK.out.2.2.2 k (I_B1.out k h))⟩
 obtain ⟨hq1,hq2⟩ : (1 : Int) ≤ pause ∧ pause ≤ 1000000:=HPZ.out rfl
 clear HPZ
 by_cases hp : 1 < pause
 case pos =>
  have hX : tickM ⟨⟨sc,su,sa,sp⟩,⟨gen,bl,busy,⟨nc,nt,⟨nk,na,no,nn⟩⟩,pl,⟨se,sn⟩⟩,false,pause,falls,cls⟩ = ⟨⟨sc,su,sa,sp⟩,⟨gen,bl,busy,⟨nc,nt,⟨nk,na,no,nn⟩⟩,pl,⟨se,sn⟩⟩,false,(pause - 1),falls,cls⟩:=by
   show (if (false = true) then _ else if 1 < pause then _ else _) = _
   rw [if_neg (by simp),if_pos hp]
  rw [hX]
  clear hX
  have hne : ¬ (pause - 1 = 0):=by omega
  go_enter Try.func11,Try.ntmps11
  go_wp2_with ((with_reducible refine zst (L:=[43,40,30,67]) ?_ ?_); exact rfl)
  unfold Hid
  refine wpList_boxB rfl 43 (.tmp 0) rfl #[.slice ca sc.length cc,.slice ua su.length uc,.slice aa sa.length ac,.slice pa sp.length pc,I gen,.slice xa bl.length xc,.bool busy,I nc,I nt,I nk,I na,I no,I nn,.slice la pl.length lc,I se,I sn,.bool false,I pause,I falls,.slice ka cls.length kc] rfl (fun b0 w1_ M1=>?_)
  have B_b0:=zmb M1
  replace EW:=zet EW M1
  go_wp2_with ((with_reducible refine zst (L:=[43,40,30,67]) ?_ ?_); exact rfl)
  unfold Hid
  refine wpList_allocB rfl 43 #[.slice none 0 0,.slice none 0 0,.slice none 0 0,.slice none 0 0,I 0,.slice none 0 0,.bool false,I 0,I 0,I 0,I 0,I 0,I 0,.slice none 0 0,I 0,I 0,.bool false,I 0,I 0,.slice none 0 0] (by kernel_rfl) (fun b1 w2_ M2=>?_)
  have D_b0_b1:=zld B_b0 M2
  replace B_b0:=zmo M2 B_b0
  have B_b1:=zmb M2
  replace EW:=zet EW M2
  have A_b0 : Hid (b0 = w.heap.size + 0):=by unfold Hid; have q0:=M1.out.at_; have r0:=M1.out.size; omega
  have N_b0:=znb HK A_b0 (by decide)
  have O_b0:=zob A_b0
  have A_b1 : Hid (b1 = w.heap.size + 1):=by unfold Hid; have q0:=M1.out.at_; have r0:=M1.out.size; have q1:=M2.out.at_; have r1:=M2.out.size; omega
  have N_b1:=znb HK A_b1 (by decide)
  have O_b1:=zob A_b1
  go_wp2_with ((with_reducible refine zst (L:=[43,40,30,67]) ?_ ?_); exact rfl)
  unfold Hid
  refine wpList_loadW rfl 43 (.tmp 1) rfl b0 rfl B_b0 Try.underlying43 (by kernel_rfl) (fun v4 H_v4=>?_)
  go_wp2_with fail
  rw [show _ = Value.agg #[.slice ca sc.length cc,.slice ua su.length uc,.slice aa sa.length ac,.slice pa sp.length pc,I gen,.slice xa bl.length xc,.bool busy,I nc,I nt,I nk,I na,I no,I nn,.slice la pl.length lc,I se,I sn,.bool false,I pause,I falls,.slice ka cls.length kc] from H_v4.out]
  clear H_v4
  have hin : ∀ k,w2_.heap.size ≤ k → B k:=fun k h=>HK.out.2.1 k (by have q:=(Array.getElem?_eq_some_iff.1 B_b1.out).1; have q2:=A_b1.out; omega)
  refine (OwnM_keeps ⟨⟨sc,su,sa,sp⟩,⟨gen,bl,busy,⟨nc,nt,⟨nk,na,no,nn⟩⟩,pl,⟨se,sn⟩⟩,false,pause,falls,cls⟩ _ _ _ _ _ _ _ w2_ A (H.out.ext EW.out) HS.out).to fun r wa ea hr=>?_
  obtain ⟨cs,rfl,hcs⟩:=rd_agg hr
  obtain ⟨c',u',a',p',box',plan',cl',rfl,hM⟩:=rd_mc hcs
  obtain ⟨ca1,cc1,ua1,uc1,aa1,ac1,pa1,pc1,xa1,xc1,la1,lc1,ka1,kc1,rfl,rfl,rfl,rfl,rfl,rfl,rfl⟩:=hM.slices
  have H1:=Lib.hid (hM.widen (B:=B) fun k _ h=>hin k (by rcases h with h | h; exact h.elim; exact h))
  clear hr hcs hM hin
  replace B_b0:=zbx B_b0 ea
  replace B_b1:=zbx B_b1 ea
  replace EW:=Lib.hid (EW.out.trans ea)
  clear ea
  go_wp2_with ((with_reducible refine zst (L:=[43,40,30,67]) ?_ ?_); exact rfl)
  unfold Hid
  refine wpList_allocB rfl 43 #[.slice none 0 0,.slice none 0 0,.slice none 0 0,.slice none 0 0,I 0,.slice none 0 0,.bool false,I 0,I 0,I 0,I 0,I 0,I 0,.slice none 0 0,I 0,I 0,.bool false,I 0,I 0,.slice none 0 0] (by kernel_rfl) (fun b3 w3_ M3=>?_)
  have D_b0_b3:=zld B_b0 M3
  have D_b1_b3:=zld B_b1 M3
  obtain ⟨B1,HB1⟩ : ∃ X : Nat → Prop,Hid (∀ k,X k ↔ (B k ∧ k ≠ b3)):=⟨_,fun _=>Iff.rfl⟩
  replace H1:=Lib.hid (H1.out.widen (B:=B1) (fun k hk h=>(HB1.out k).2 ⟨h,by have q2:=M3.out.at_; omega⟩))
  replace N_b0:=znw HB1 N_b0
  replace N_b1:=znw HB1 N_b1
  have N_b3 : Hid (¬ B1 b3):=fun h=>((HB1.out _).1 h).2 rfl
  have I_B1 : Hid (∀ k,B1 k → B k):=fun k h=>((HB1.out k).1 h).1
  have O_b3 : Hid (w.heap.size ≤ b3):=by unfold Hid; have q2:=M3.out.at_; have q3:=EW.out.size; omega
  replace B_b0:=zmo M3 B_b0
  replace B_b1:=zmo M3 B_b1
  have B_b3:=zmb M3
  replace H1:=Lib.hid (H1.out.ext M3.out.ext)
  replace EW:=zet EW M3
  go_wp2_with ((with_reducible refine zst (L:=[43,40,30,67]) ?_ ?_); exact rfl)
  unfold Hid
  refine wpList_storeW rfl 43 (.tmp 3) (.tmp 5) rfl b3 rfl [.slice ca1 sc.length cc1,.slice ua1 su.length uc1,.slice aa1 sa.length ac1,.slice pa1 sp.length pc1,I gen,.slice xa1 bl.length xc1,.bool busy,I nc,I nt,I nk,I na,I no,I nn,.slice la1 pl.length lc1,I se,I sn,.bool false,I pause,I falls,.slice ka1 cls.length kc1] (rfl) B_b3 rfl (by kernel_rfl) rfl (fun w4_ M4=>?_)
  replace B_b0:=zwl M4 B_b0 D_b0_b3
  replace B_b1:=zwl M4 B_b1 D_b1_b3
  replace B_b3:=zwb M4
  replace H1:=Lib.hid (M4.out.rdM H1.out N_b3.out)
  replace EW:=zwe M4 EW O_b3
  have c16:=cell_of (i:=16) B_b0.out rfl
  have c17:=cell_of (i:=17) B_b3.out rfl
  go_wp2_with ((with_reducible refine zst (L:=[43,40,30,67]) ?_ ?_); exact rfl)
  unfold Hid
  clear c16 c17
  refine wpList_storeP rfl 3 (.tmp 12) (.tmp 11) rfl b3 17 rfl [I (pause - 1)] (rfl) B_b3 rfl (by kernel_rfl) rfl [.slice ca1 sc.length cc1,.slice ua1 su.length uc1,.slice aa1 sa.length ac1,.slice pa1 sp.length pc1,I gen,.slice xa1 bl.length xc1,.bool busy,I nc,I nt,I nk,I na,I no,I nn,.slice la1 pl.length lc1,I se,I sn,.bool false,I (pause - 1),I falls,.slice ka1 cls.length kc1] rfl (fun w5_ M5=>?_)
  replace B_b0:=zwl M5 B_b0 D_b0_b3
  replace B_b1:=zwl M5 B_b1 D_b1_b3
  replace B_b3:=zwb M5
  replace H1:=Lib.hid (M5.out.rdM H1.out N_b3.out)
  replace EW:=zwe M5 EW O_b3
  have c17:=cell_of (i:=17) B_b3.out rfl
  go_wp2_with ((with_reducible refine zst (L:=[43,40,30,67]) ?_ ?_); exact rfl)
  unfold Hid
  clear c17
  refine wpList_loadW rfl 43 (.tmp 3) rfl b3 rfl B_b3 Try.underlying43 (by kernel_rfl) (fun v27 H_v27=>?_)
  go_wp2_with ((with_reducible refine zst (L:=[43,40,30,67]) ?_ ?_); exact rfl)
  unfold Hid
  refine wpList_storeW rfl 43 (.tmp 2) (.tmp 27) rfl b1 rfl _ (zcv H_v27) B_b1 rfl (by kernel_rfl) rfl (fun w6_ M6=>?_)
  replace B_b0:=zwl M6 B_b0 D_b0_b1
  replace B_b1:=zwb M6
  replace B_b3:=zwg M6 B_b3 D_b1_b3
  replace H1:=Lib.hid (M6.out.rdM H1.out N_b1.out)
  replace EW:=zwe M6 EW O_b1
  go_wp2
  have z0:=run_box (P:=Try.prog) 43 B_b1.out Try.underlying43 (by kernel_rfl)
  refine bodyPost_ret (by simp [results,Try.results11,asAddr,z0,Act.put]; rfl) rfl ?_
  exact ⟨_,rfl,EW.out,Rd.widen (agg_rd (RdM.mc (m:=⟨⟨sc,su,sa,sp⟩,⟨gen,bl,busy,⟨nc,nt,⟨nk,na,no,nn⟩⟩,pl,⟨se,sn⟩⟩,false,(pause - 1),falls,cls⟩) ⟨H1.out.cells,H1.out.undo,H1.out.answers,H1.out.past,H1.out.box,H1.out.plan,H1.out.clients⟩)) (fun k _ h=>HK.out.2.2.2 k (I_B1.out k h))⟩
 have hX : tickM ⟨⟨sc,su,sa,sp⟩,⟨gen,bl,busy,⟨nc,nt,⟨nk,na,no,nn⟩⟩,pl,⟨se,sn⟩⟩,false,pause,falls,cls⟩ = ⟨backSt ⟨sc,su,sa,sp⟩,idleSv (gen + 1) [],true,0,falls,cls⟩:=by
  show (if (false = true) then _ else if 1 < pause then _ else _) = _
  rw [if_neg (by simp),if_neg hp]
 rw [hX]
 clear hX
 obtain rfl : pause = 1:=by omega
 obtain ⟨hg1,hg2⟩ : (0 : Int) ≤ gen ∧ gen ≤ 1000000:=HGN.out
 clear HGN
 go_enter Try.func11,Try.ntmps11
 go_wp2_with ((with_reducible refine zst (L:=[43,40,30,67]) ?_ ?_); exact rfl)
 unfold Hid
 refine wpList_boxB rfl 43 (.tmp 0) rfl #[.slice ca sc.length cc,.slice ua su.length uc,.slice aa sa.length ac,.slice pa sp.length pc,I gen,.slice xa bl.length xc,.bool busy,I nc,I nt,I nk,I na,I no,I nn,.slice la pl.length lc,I se,I sn,.bool false,I 1,I falls,.slice ka cls.length kc] rfl (fun b0 w1_ M1=>?_)
 have B_b0:=zmb M1
 replace EW:=zet EW M1
 go_wp2_with ((with_reducible refine zst (L:=[43,40,30,67]) ?_ ?_); exact rfl)
 unfold Hid
 refine wpList_allocB rfl 43 #[.slice none 0 0,.slice none 0 0,.slice none 0 0,.slice none 0 0,I 0,.slice none 0 0,.bool false,I 0,I 0,I 0,I 0,I 0,I 0,.slice none 0 0,I 0,I 0,.bool false,I 0,I 0,.slice none 0 0] (by kernel_rfl) (fun b1 w2_ M2=>?_)
 have D_b0_b1:=zld B_b0 M2
 replace B_b0:=zmo M2 B_b0
 have B_b1:=zmb M2
 replace EW:=zet EW M2
 have A_b0 : Hid (b0 = w.heap.size + 0):=by unfold Hid; have q0:=M1.out.at_; have r0:=M1.out.size; omega
 have N_b0:=znb HK A_b0 (by decide)
 have O_b0:=zob A_b0
 have A_b1 : Hid (b1 = w.heap.size + 1):=by unfold Hid; have q0:=M1.out.at_; have r0:=M1.out.size; have q1:=M2.out.at_; have r1:=M2.out.size; omega
 have N_b1:=znb HK A_b1 (by decide)
 have O_b1:=zob A_b1
 go_wp2_with ((with_reducible refine zst (L:=[43,40,30,67]) ?_ ?_); exact rfl)
 unfold Hid
 refine wpList_loadW rfl 43 (.tmp 1) rfl b0 rfl B_b0 Try.underlying43 (by kernel_rfl) (fun v4 H_v4=>?_)
 go_wp2_with fail
 rw [show _ = Value.agg #[.slice ca sc.length cc,.slice ua su.length uc,.slice aa sa.length ac,.slice pa sp.length pc,I gen,.slice xa bl.length xc,.bool busy,I nc,I nt,I nk,I na,I no,I nn,.slice la pl.length lc,I se,I sn,.bool false,I 1,I falls,.slice ka cls.length kc] from H_v4.out]
 clear H_v4
 have hin : ∀ k,w2_.heap.size ≤ k → B k:=fun k h=>HK.out.2.1 k (by have q:=(Array.getElem?_eq_some_iff.1 B_b1.out).1; have q2:=A_b1.out; omega)
 refine (OwnM_keeps ⟨⟨sc,su,sa,sp⟩,⟨gen,bl,busy,⟨nc,nt,⟨nk,na,no,nn⟩⟩,pl,⟨se,sn⟩⟩,false,1,falls,cls⟩ _ _ _ _ _ _ _ w2_ A (H.out.ext EW.out) HS.out).to fun r wa ea hr=>?_
 obtain ⟨cs,rfl,hcs⟩:=rd_agg hr
 obtain ⟨c',u',a',p',box',plan',cl',rfl,hM⟩:=rd_mc hcs
 obtain ⟨ca1,cc1,ua1,uc1,aa1,ac1,pa1,pc1,xa1,xc1,la1,lc1,ka1,kc1,rfl,rfl,rfl,rfl,rfl,rfl,rfl⟩:=hM.slices
 have H1:=Lib.hid (hM.widen (B:=B) fun k _ h=>hin k (by rcases h with h | h; exact h.elim; exact h))
 clear hr hcs hM hin
 replace B_b0:=zbx B_b0 ea
 replace B_b1:=zbx B_b1 ea
 replace EW:=Lib.hid (EW.out.trans ea)
 clear ea
 go_wp2_with ((with_reducible refine zst (L:=[43,40,30,67]) ?_ ?_); exact rfl)
 unfold Hid
 refine wpList_allocB rfl 43 #[.slice none 0 0,.slice none 0 0,.slice none 0 0,.slice none 0 0,I 0,.slice none 0 0,.bool false,I 0,I 0,I 0,I 0,I 0,I 0,.slice none 0 0,I 0,I 0,.bool false,I 0,I 0,.slice none 0 0] (by kernel_rfl) (fun b3 w3_ M3=>?_)
 have D_b0_b3:=zld B_b0 M3
 have D_b1_b3:=zld B_b1 M3
 obtain ⟨B1,HB1⟩ : ∃ X : Nat → Prop,Hid (∀ k,X k ↔ (B k ∧ k ≠ b3)):=⟨_,fun _=>Iff.rfl⟩
 replace H1:=Lib.hid (H1.out.widen (B:=B1) (fun k hk h=>(HB1.out k).2 ⟨h,by have q2:=M3.out.at_; omega⟩))
 replace N_b0:=znw HB1 N_b0
 replace N_b1:=znw HB1 N_b1
 have N_b3 : Hid (¬ B1 b3):=fun h=>((HB1.out _).1 h).2 rfl
 have I_B1 : Hid (∀ k,B1 k → B k):=fun k h=>((HB1.out k).1 h).1
 have O_b3 : Hid (w.heap.size ≤ b3):=by unfold Hid; have q2:=M3.out.at_; have q3:=EW.out.size; omega
 replace B_b0:=zmo M3 B_b0
 replace B_b1:=zmo M3 B_b1
 have B_b3:=zmb M3
 replace H1:=Lib.hid (H1.out.ext M3.out.ext)
 replace EW:=zet EW M3
 go_wp2_with ((with_reducible refine zst (L:=[43,40,30,67]) ?_ ?_); exact rfl)
 unfold Hid
 refine wpList_storeW rfl 43 (.tmp 3) (.tmp 5) rfl b3 rfl [.slice ca1 sc.length cc1,.slice ua1 su.length uc1,.slice aa1 sa.length ac1,.slice pa1 sp.length pc1,I gen,.slice xa1 bl.length xc1,.bool busy,I nc,I nt,I nk,I na,I no,I nn,.slice la1 pl.length lc1,I se,I sn,.bool false,I 1,I falls,.slice ka1 cls.length kc1] (rfl) B_b3 rfl (by kernel_rfl) rfl (fun w4_ M4=>?_)
 replace B_b0:=zwl M4 B_b0 D_b0_b3
 replace B_b1:=zwl M4 B_b1 D_b1_b3
 replace B_b3:=zwb M4
 replace H1:=Lib.hid (M4.out.rdM H1.out N_b3.out)
 replace EW:=zwe M4 EW O_b3
 have c16:=cell_of (i:=16) B_b0.out rfl
 have c17:=cell_of (i:=17) B_b3.out rfl
 go_wp2_with ((with_reducible refine zst (L:=[43,40,30,67]) ?_ ?_); exact rfl)
 unfold Hid
 clear c16 c17
 refine wpList_storeP rfl 3 (.tmp 12) (.tmp 11) rfl b3 17 rfl [I 0] (rfl) B_b3 rfl (by kernel_rfl) rfl [.slice ca1 sc.length cc1,.slice ua1 su.length uc1,.slice aa1 sa.length ac1,.slice pa1 sp.length pc1,I gen,.slice xa1 bl.length xc1,.bool busy,I nc,I nt,I nk,I na,I no,I nn,.slice la1 pl.length lc1,I se,I sn,.bool false,I 0,I falls,.slice ka1 cls.length kc1] rfl (fun w5_ M5=>?_)
 replace B_b0:=zwl M5 B_b0 D_b0_b3
 replace B_b1:=zwl M5 B_b1 D_b1_b3
 replace B_b3:=zwb M5
 replace H1:=Lib.hid (M5.out.rdM H1.out N_b3.out)
 replace EW:=zwe M5 EW O_b3
 have c17:=cell_of (i:=17) B_b3.out rfl
 go_wp2_with ((with_reducible refine zst (L:=[43,40,30,67]) ?_ ?_); exact rfl)
 unfold Hid
 clear c17
 refine wpList_storeP rfl 4 (.tmp 16) (.const (.bool true)) rfl b3 16 rfl [.bool true] (rfl) B_b3 rfl (by kernel_rfl) rfl [.slice ca1 sc.length cc1,.slice ua1 su.length uc1,.slice aa1 sa.length ac1,.slice pa1 sp.length pc1,I gen,.slice xa1 bl.length xc1,.bool busy,I nc,I nt,I nk,I na,I no,I nn,.slice la1 pl.length lc1,I se,I sn,.bool true,I 0,I falls,.slice ka1 cls.length kc1] rfl (fun w6_ M6=>?_)
 replace B_b0:=zwl M6 B_b0 D_b0_b3
 replace B_b1:=zwl M6 B_b1 D_b1_b3
 replace B_b3:=zwb M6
 replace H1:=Lib.hid (M6.out.rdM H1.out N_b3.out)
 replace EW:=zwe M6 EW O_b3
 go_wp2_with ((with_reducible refine zst (L:=[43,40,30,67]) ?_ ?_); exact rfl)
 unfold Hid
 refine wpList_loadP rfl 30 (.tmp 17) rfl b3 0 rfl B_b3 [.slice ca1 sc.length cc1,.slice ua1 su.length uc1,.slice aa1 sa.length ac1,.slice pa1 sp.length pc1] rfl Try.underlying30 (by kernel_rfl) (fun v18 H_v18=>?_)
 go_wp2_with fail
 rw [show _ = Value.agg #[.slice ca1 sc.length cc1,.slice ua1 su.length uc1,.slice aa1 sa.length ac1,.slice pa1 sp.length pc1] from H_v18.out]
 clear H_v18
 refine (Back_any _ _ _ _ ⟨sc,su,sa,sp⟩ w6_ (st_iff.2 ⟨H1.out.cells.out,H1.out.undo.out,H1.out.answers.out,H1.out.past.out⟩) HS.out.1).to fun r wb eb hr1=>?_
 obtain ⟨cs,rfl,hcs⟩:=rd_agg hr1
 obtain ⟨c',u',a',p',rfl,r1,r2,r3,r4⟩:=rd_st hcs
 obtain ⟨ca',cc',rfl⟩:=row_slice r1.out
 obtain ⟨ua',uc',rfl⟩:=row_slice r2.out
 obtain ⟨aa',ac',rfl⟩:=rowOf_slice r3.out
 obtain ⟨pa',pc',rfl⟩:=rowOf_slice r4.out
 have hsz : w.heap.size + 2 ≤ w6_.heap.size:=by have q:=(Array.getElem?_eq_some_iff.1 B_b1.out).1; have q2:=A_b1.out; omega
 have hin : ∀ k,k < wb.heap.size → (False ∨ w6_.heap.size ≤ k) → B1 k:=fun k _ h=>by
  rcases h with h | h
  ·exact h.elim
  ·exact (HB1.out k).2 ⟨HK.out.2.1 k (by omega),by have q:=(Array.getElem?_eq_some_iff.1 B_b3.out).1; omega⟩
 have R1:=Lib.hid (r1.widen hin)
 have R2:=Lib.hid (r2.widen hin)
 have R3:=Lib.hid (r3.widen hin)
 have R4:=Lib.hid (r4.widen hin)
 clear hr1 hcs r1 r2 r3 r4 hin hsz
 replace B_b0:=zbx B_b0 eb
 replace B_b1:=zbx B_b1 eb
 replace B_b3:=zbx B_b3 eb
 replace H1:=Lib.hid (H1.out.ext eb)
 replace EW:=Lib.hid (EW.out.trans eb)
 clear eb
 go_wp2_with ((with_reducible refine zst (L:=[43,40,30,67]) ?_ ?_); exact rfl)
 unfold Hid
 refine wpList_storeP rfl 30 (.tmp 20) (.tmp 19) rfl b3 0 rfl [.slice ca' (backSt ⟨sc,su,sa,sp⟩).cells.length cc',.slice ua' (backSt ⟨sc,su,sa,sp⟩).undo.length uc',.slice aa' (backSt ⟨sc,su,sa,sp⟩).answers.length ac',.slice pa' (backSt ⟨sc,su,sa,sp⟩).past.length pc'] (rfl) B_b3 rfl (by kernel_rfl) rfl [.slice ca' (backSt ⟨sc,su,sa,sp⟩).cells.length cc',.slice ua' (backSt ⟨sc,su,sa,sp⟩).undo.length uc',.slice aa' (backSt ⟨sc,su,sa,sp⟩).answers.length ac',.slice pa' (backSt ⟨sc,su,sa,sp⟩).past.length pc',I gen,.slice xa1 bl.length xc1,.bool busy,I nc,I nt,I nk,I na,I no,I nn,.slice la1 pl.length lc1,I se,I sn,.bool true,I 0,I falls,.slice ka1 cls.length kc1] rfl (fun w7_ M7=>?_)
 replace B_b0:=zwl M7 B_b0 D_b0_b3
 replace B_b1:=zwl M7 B_b1 D_b1_b3
 replace B_b3:=zwb M7
 replace H1:=Lib.hid (M7.out.rdM H1.out N_b3.out)
 replace R1:=zwr M7 R1 N_b3
 replace R2:=zwr M7 R2 N_b3
 replace R3:=zwr M7 R3 N_b3
 replace R4:=zwr M7 R4 N_b3
 replace EW:=zwe M7 EW O_b3
 have c4:=cell_of (i:=4) B_b0.out rfl
 go_wp2_with fail
 clear c4
 refine (empty_any (gen + 1) w7_).to fun r wc ec hr=>?_
 subst hr
 replace B_b0:=zbx B_b0 ec
 replace B_b1:=zbx B_b1 ec
 replace B_b3:=zbx B_b3 ec
 replace H1:=Lib.hid (H1.out.ext ec)
 replace R1:=zrx R1 ec
 replace R2:=zrx R2 ec
 replace R3:=zrx R3 ec
 replace R4:=zrx R4 ec
 replace EW:=Lib.hid (EW.out.trans ec)
 clear ec
 go_wp2_with ((with_reducible refine zst (L:=[43,40,30,67]) ?_ ?_); exact rfl)
 unfold Hid
 refine wpList_storeP rfl 40 (.tmp 26) (.tmp 25) rfl b3 4 rfl [I (gen + 1),.slice none 0 0,.bool false,I 0,I 0,I 0,I 0,I 0,I 0,.slice none 0 0,I 0,I 0] (rfl) B_b3 rfl (by kernel_rfl) rfl [.slice ca' (backSt ⟨sc,su,sa,sp⟩).cells.length cc',.slice ua' (backSt ⟨sc,su,sa,sp⟩).undo.length uc',.slice aa' (backSt ⟨sc,su,sa,sp⟩).answers.length ac',.slice pa' (backSt ⟨sc,su,sa,sp⟩).past.length pc',I (gen + 1),.slice none 0 0,.bool false,I 0,I 0,I 0,I 0,I 0,I 0,.slice none 0 0,I 0,I 0,.bool true,I 0,I falls,.slice ka1 cls.length kc1] rfl (fun w8_ M8=>?_)
 replace B_b0:=zwl M8 B_b0 D_b0_b3
 replace B_b1:=zwl M8 B_b1 D_b1_b3
 replace B_b3:=zwb M8
 replace H1:=Lib.hid (M8.out.rdM H1.out N_b3.out)
 replace R1:=zwr M8 R1 N_b3
 replace R2:=zwr M8 R2 N_b3
 replace R3:=zwr M8 R3 N_b3
 replace R4:=zwr M8 R4 N_b3
 replace EW:=zwe M8 EW O_b3
 go_wp2_with ((with_reducible refine zst (L:=[43,40,30,67]) ?_ ?_); exact rfl)
 unfold Hid
 refine wpList_loadW rfl 43 (.tmp 3) rfl b3 rfl B_b3 Try.underlying43 (by kernel_rfl) (fun v27 H_v27=>?_)
 go_wp2_with ((with_reducible refine zst (L:=[43,40,30,67]) ?_ ?_); exact rfl)
 unfold Hid
 refine wpList_storeW rfl 43 (.tmp 2) (.tmp 27) rfl b1 rfl _ (zcv H_v27) B_b1 rfl (by kernel_rfl) rfl (fun w9_ M9=>?_)
 replace B_b0:=zwl M9 B_b0 D_b0_b1
 replace B_b1:=zwb M9
 replace B_b3:=zwg M9 B_b3 D_b1_b3
 replace H1:=Lib.hid (M9.out.rdM H1.out N_b1.out)
 replace R1:=zwr M9 R1 N_b1
 replace R2:=zwr M9 R2 N_b1
 replace R3:=zwr M9 R3 N_b1
 replace R4:=zwr M9 R4 N_b1
 replace EW:=zwe M9 EW O_b1
 go_wp2
 have z0:=run_box (P:=Try.prog) 43 B_b1.out Try.underlying43 (by kernel_rfl)
 refine bodyPost_ret (by simp [results,Try.results11,asAddr,z0,Act.put]; rfl) rfl ?_
 exact ⟨_,rfl,EW.out,Rd.widen (agg_rd (RdM.mc (m:=⟨backSt ⟨sc,su,sa,sp⟩,idleSv (gen + 1) [],true,0,falls,cls⟩) ⟨R1.out,R2.out,R3.out,R4.out,Rd.all fun w=>RowOf.nil w,Rd.all fun w=>writes_nil w,H1.out.clients⟩)) (fun k _ h=>HK.out.2.2.2 k (I_B1.out k h))⟩

end Go.Proofs.Ytdmipnnfoolelad

namespace Go.Proofs.Ytdmipnnfoolelad
open Go.RowKit Go.Mk

/-- Boxes of bytes, place by place. -/
theorem bss_form {w : World} {v : Value} {l : List (List UInt8)} (h : RowOf 1 elBs w v l) : ∃ ao cap,v = .slice ao l.length cap ∧ l.length ≤ cap ∧ cap ≤ maxLen ∧
  ∀ k x,l[k]? = some x → ∃ b off bv,ao = some ⟨b,off,none⟩ ∧ w.cell? ⟨b,off + k,none⟩ = some bv ∧ Bytes w bv x:=by
 obtain ⟨ao,cap,h1,h2,h3,-,h5⟩:=h.form (by decide)
 refine ⟨ao,cap,h1,h2,h3,fun k x hx=>?_⟩
 obtain ⟨b,off,c,e,-,⟨bv,rfl,hb⟩,hcell⟩:=h5 k x hx
 refine ⟨b,off,bv,e,?_,hb⟩
 have:=hcell 0 bv rfl
 rwa [Nat.mul_one,Nat.add_zero] at this

set_option maxRecDepth 100000 in
set_option maxHeartbeats 1000000 in
theorem sameBytes_eq (u v : Value) (xs : List (List UInt8)) (w : World) (hu : RowOf 1 elBs w u xs) (hv : RowOf 1 elBs w v xs) :
  Calls Try.prog 31 #[u,v] w fun e w'=>e = .returned (.bool true) ∧ Ext w w':=by
 obtain ⟨ua,uc,rfl,u1,u2,u3⟩:=bss_form hu
 obtain ⟨va,vc,rfl,v1,v2,v3⟩:=bss_form hv
 unfold maxLen at u2 v2
 have U3:=Lib.hid u3
 have V3:=Lib.hid v3
 clear u3 v3 hu hv
 go_enter Try.func31,Try.ntmps31
 go_wp2
 go_loopw [13] (fun i wr=>∃ k : Nat,k ≤ xs.length ∧ i = I k ∧ Ext w wr) (fun i _=>xs.length - (intOf i).toNat)
 case atStart=>exact ⟨0,by omega,rfl,Ext.refl _⟩
 case round =>
  obtain ⟨k,hk,rfl,he⟩:=hrel
  by_cases hlt : k < xs.length
  ·obtain ⟨x,hx⟩ : ∃ x,xs[k]? = some x:=⟨xs[k],List.getElem?_eq_getElem hlt⟩
   obtain ⟨b,off,v1,rfl,c1,h1⟩:=U3.out k x hx
   obtain ⟨b',off',v2,rfl,c2,h2⟩:=V3.out k x hx
   clear hx
   replace c1:=he.cell c1
   replace c2:=he.cell c2
   replace h1:=h1.ext he
   replace h2:=h2.ext he
   go_wp2_with fail
   refine wp_region_mono [none,none,none,none,some (.inl (.string ⟨x.toArray⟩)),none,none,none,none,some (.inl (.string ⟨x.toArray⟩)),none] (by kernel_rfl) (by kernel_rfl) ?_ ?_
   ·exact ⟨trivial,trivial,trivial,trivial,trivial,trivial,trivial,trivial,trivial,trivial,trivial,trivial⟩
   iterate 3 (refine wpM_p (fun K hK=>?_); go_simp; first | refine hK _ ?_ | refine ⟨(fun h=>by cases h),hK _ ?_⟩; clear hK K)
   refine wpM_q (v1) rfl (fun w' hw'=>by have q0:=hw'.cell c1; go_simp) ?_
   refine wpM_norm (fun K hK=>?_); go_simp; refine hK _ ?_; clear hK K
   refine wpM_x _ rfl (fun w' hw' hk=>?_) ?_
   ·have hcv:=run_string_of (P:=Try.prog) (h1.ext hw') Try.underlying80 Try.underlying5 Try.underlying9
    clear hk
    unfold makes
    go_simp
    exact ⟨Ext.refl _,rfl⟩
   refine wpM_norm (fun K hK=>?_); go_simp; refine hK _ ?_; clear hK K
   iterate 3 (refine wpM_p (fun K hK=>?_); go_simp; first | refine hK _ ?_ | refine ⟨(fun h=>by cases h),hK _ ?_⟩; clear hK K)
   refine wpM_q (v2) rfl (fun w' hw'=>by have q0:=hw'.cell c2; go_simp) ?_
   refine wpM_norm (fun K hK=>?_); go_simp; refine hK _ ?_; clear hK K
   refine wpM_x _ rfl (fun w' hw' hk=>?_) ?_
   ·have hcv:=run_string_of (P:=Try.prog) (h2.ext hw') Try.underlying80 Try.underlying5 Try.underlying9
    clear hk
    unfold makes
    go_simp
    exact ⟨Ext.refl _,rfl⟩
   refine wpM_norm (fun K hK=>?_); go_simp; refine hK _ ?_; clear hK K
   iterate 1 (refine wpM_p (fun K hK=>?_); go_simp; first | refine hK _ ?_ | refine ⟨(fun h=>by cases h),hK _ ?_⟩; clear hK K)
   refine wpM_nil ?_
   intro wn hen _
   clear c1 c2 h1 h2
   go_wp2
   go_roundw
   case rel=>exact ⟨k + 1,by omega,by go_num,he.trans hen⟩
   case measure=>simp [intOf]; omega
  ·go_wp2
   go_ret
   exact ⟨rfl,he⟩

set_option maxRecDepth 100000 in
set_option maxHeartbeats 2000000 in
theorem sameServer_eq (v : Sv) (x1 x9 y1 y9 : Value) (w : World) (hx : RowOf 1 elBs w x1 v.box ∧ Writes w x9 v.plan) (hy : RowOf 1 elBs w y1 v.box ∧ Writes w y9 v.plan) :
  Calls Try.prog 18 #[.agg (cells12 v x1 x9).toArray,.agg (cells12 v y1 y9).toArray] w fun e w'=>e = .returned (.bool true) ∧ Ext w w':=by
 obtain ⟨gen,bl,busy,⟨nc,nt,⟨nk,na,no,nn⟩⟩,pl,⟨se,sn⟩⟩:=v
 simp only [cells12] at *
 have hst : Try.prog.stoodInHeld 35 = false:=by kernel_rfl
 have hgd : Try.prog.eqGuardType Try.prog.depth 35 = false:=by kernel_rfl
 have hst2 : Try.prog.stoodInHeld 38 = false:=by kernel_rfl
 have hgd2 : Try.prog.eqGuardType Try.prog.depth 38 = false:=by kernel_rfl
 have HX:=Lib.hid hx
 have HY:=Lib.hid hy
 clear hx hy
 have EW:=Lib.hid (Ext.refl w)
 go_enter Try.func18,Try.ntmps18
 go_wp2_with (with_reducible first | refine stop_load 43 ?_ | refine stop_load 40 ?_ | refine stop_load 30 ?_ | refine stop_load 67 ?_ | refine stop_store ?_ | refine stop_box ?_ | refine stop_alloc ?_ | refine stop_build ?_ | refine stop_lit ?_)
 unfold Hid
 refine wpList_boxB rfl 40 (.tmp 0) rfl #[I gen,x1,.bool busy,I nc,I nt,I nk,I na,I no,I nn,x9,I se,I sn] rfl (fun b0 w1_ M1=>?_)
 have B_b0:=Lib.hid M1.out.block
 replace EW:=Lib.hid (EW.out.trans M1.out.ext)
 go_wp2_with (with_reducible first | refine stop_load 43 ?_ | refine stop_load 40 ?_ | refine stop_load 30 ?_ | refine stop_load 67 ?_ | refine stop_store ?_ | refine stop_box ?_ | refine stop_alloc ?_ | refine stop_build ?_ | refine stop_lit ?_)
 unfold Hid
 refine wpList_boxB rfl 40 (.tmp 1) rfl #[I gen,y1,.bool busy,I nc,I nt,I nk,I na,I no,I nn,y9,I se,I sn] rfl (fun b1 w2_ M2=>?_)
 have D_b0_b1 : Hid (b0 < b1):=by unfold Hid; have q:=(Array.getElem?_eq_some_iff.1 B_b0.out).1; have q2:=M2.out.at_; omega
 replace B_b0:=Lib.hid (M2.out.old B_b0.out)
 have B_b1:=Lib.hid M2.out.block
 replace EW:=Lib.hid (EW.out.trans M2.out.ext)
 have c0:=cell_of (i:=0) B_b0.out rfl
 have d0:=cell_of (i:=0) B_b1.out rfl
 have c1:=cell_of (i:=1) B_b0.out rfl
 have d1:=cell_of (i:=1) B_b1.out rfl
 have c2:=cell_of (i:=2) B_b0.out rfl
 have d2:=cell_of (i:=2) B_b1.out rfl
 have c3:=cell_of (i:=3) B_b0.out rfl
 have d3:=cell_of (i:=3) B_b1.out rfl
 have c4:=cell_of (i:=4) B_b0.out rfl
 have d4:=cell_of (i:=4) B_b1.out rfl
 have c5:=cell_of (i:=5) B_b0.out rfl
 have d5:=cell_of (i:=5) B_b1.out rfl
 have c6:=cell_of (i:=6) B_b0.out rfl
 have d6:=cell_of (i:=6) B_b1.out rfl
 have c7:=cell_of (i:=7) B_b0.out rfl
 have d7:=cell_of (i:=7) B_b1.out rfl
 have c8:=cell_of (i:=8) B_b0.out rfl
 have d8:=cell_of (i:=8) B_b1.out rfl
 have c9:=cell_of (i:=9) B_b0.out rfl
 have d9:=cell_of (i:=9) B_b1.out rfl
 have c10:=cell_of (i:=10) B_b0.out rfl
 have d10:=cell_of (i:=10) B_b1.out rfl
 have c11:=cell_of (i:=11) B_b0.out rfl
 have d11:=cell_of (i:=11) B_b1.out rfl
 go_wp2_with fail
 clear c0 c1 c2 c3 c4 c5 c6 c7 c8 c9 c10 c11 d0 d1 d2 d3 d4 d5 d6 d7 d8 d9 d10 d11
 refine Calls.exts (sameBytes_eq _ _ bl w2_ (HX.out.1.ext monoBs EW.out) (HY.out.1.ext monoBs EW.out)) (fun wa ea=>?_)
 replace B_b0:=Lib.hid (blk_ext B_b0.out ea)
 replace B_b1:=Lib.hid (blk_ext B_b1.out ea)
 replace EW:=Lib.hid (EW.out.trans ea)
 have c0:=cell_of (i:=0) B_b0.out rfl
 have d0:=cell_of (i:=0) B_b1.out rfl
 have c1:=cell_of (i:=1) B_b0.out rfl
 have d1:=cell_of (i:=1) B_b1.out rfl
 have c2:=cell_of (i:=2) B_b0.out rfl
 have d2:=cell_of (i:=2) B_b1.out rfl
 have c3:=cell_of (i:=3) B_b0.out rfl
 have d3:=cell_of (i:=3) B_b1.out rfl
 have c4:=cell_of (i:=4) B_b0.out rfl
 have d4:=cell_of (i:=4) B_b1.out rfl
 have c5:=cell_of (i:=5) B_b0.out rfl
 have d5:=cell_of (i:=5) B_b1.out rfl
 have c6:=cell_of (i:=6) B_b0.out rfl
 have d6:=cell_of (i:=6) B_b1.out rfl
 have c7:=cell_of (i:=7) B_b0.out rfl
 have d7:=cell_of (i:=7) B_b1.out rfl
 have c8:=cell_of (i:=8) B_b0.out rfl
 have d8:=cell_of (i:=8) B_b1.out rfl
 have c9:=cell_of (i:=9) B_b0.out rfl
 have d9:=cell_of (i:=9) B_b1.out rfl
 have c10:=cell_of (i:=10) B_b0.out rfl
 have d10:=cell_of (i:=10) B_b1.out rfl
 have c11:=cell_of (i:=11) B_b0.out rfl
 have d11:=cell_of (i:=11) B_b1.out rfl
 go_wp2_with fail
 clear c0 c1 c2 c3 c4 c5 c6 c7 c8 c9 c10 c11 d0 d1 d2 d3 d4 d5 d6 d7 d8 d9 d10 d11
 refine (sameWrites_eq rfl (HX.out.2.ext EW.out) (HY.out.2.ext EW.out)).to fun r wb eb hr=>?_
 subst hr
 replace B_b0:=Lib.hid (blk_ext B_b0.out eb)
 replace B_b1:=Lib.hid (blk_ext B_b1.out eb)
 replace EW:=Lib.hid (EW.out.trans eb)
 have c0:=cell_of (i:=0) B_b0.out rfl
 have d0:=cell_of (i:=0) B_b1.out rfl
 have c1:=cell_of (i:=1) B_b0.out rfl
 have d1:=cell_of (i:=1) B_b1.out rfl
 have c2:=cell_of (i:=2) B_b0.out rfl
 have d2:=cell_of (i:=2) B_b1.out rfl
 have c3:=cell_of (i:=3) B_b0.out rfl
 have d3:=cell_of (i:=3) B_b1.out rfl
 have c4:=cell_of (i:=4) B_b0.out rfl
 have d4:=cell_of (i:=4) B_b1.out rfl
 have c5:=cell_of (i:=5) B_b0.out rfl
 have d5:=cell_of (i:=5) B_b1.out rfl
 have c6:=cell_of (i:=6) B_b0.out rfl
 have d6:=cell_of (i:=6) B_b1.out rfl
 have c7:=cell_of (i:=7) B_b0.out rfl
 have d7:=cell_of (i:=7) B_b1.out rfl
 have c8:=cell_of (i:=8) B_b0.out rfl
 have d8:=cell_of (i:=8) B_b1.out rfl
 have c9:=cell_of (i:=9) B_b0.out rfl
 have d9:=cell_of (i:=9) B_b1.out rfl
 have c10:=cell_of (i:=10) B_b0.out rfl
 have d10:=cell_of (i:=10) B_b1.out rfl
 have c11:=cell_of (i:=11) B_b0.out rfl
 have d11:=cell_of (i:=11) B_b1.out rfl
 go_wp2
 go_ret
 exact ⟨rfl,EW.out⟩

end Go.Proofs.Ytdmipnnfoolelad

/- Texts of the proof, merged: C8. -/
import Derived.Test.YtikbhmnjlmbeeaeGreatKSA
import Derived.Test.YtikbhmnjlmbeeaeGreatKSA1
set_option maxHeartbeats 4000000
set_option maxRecDepth 100000

namespace Go.Proofs.YtikbhmnjlmbeeaeGreat
open Go.RowKit Go.Mk

theorem zhX {P : Program} (w : World) (base : Nat) (t ty e : TypeId) (i : TypeInfo) (z : Value) (size bytes : Nat) (ht : P.underlying t = some (.slice e)) (hi : P.info? e = some i) (hz : i.zero = some z)
  (hsize : i.size = size) (hby : i.bytes = bytes) (hzs : z.cells.size = size) (hsz : 0 < size)
  (v : Value) (n : Nat) (xs : List Value) (hown : zc7 base e size n xs v w) (u : Value) (m : Nat) (news : List Value) (hu : Row w size u m news)
  (hbytes : (n + m) * bytes <= 140737488355328) (hpos : 0 < bytes) (hm0 : 0 < m) :
  ∃ v' w',(Builtin.append_ #[t,t] ty #[v,u]).run P w = .ok v' w' /\ w'.ownsRow w.heap.size e size v' (n + m) (xs ++ news) /\ Ext w w':=by
 obtain ⟨g,rfl,hown⟩:=hown
 have h63 : n + m <= maxLen:=by
  have : n + m <= (n + m) * bytes:=Nat.le_mul_of_pos_right _ hpos
  unfold maxLen
  omega
 obtain ⟨hl,ao,cap,rfl,hc,hm,h0,hcell⟩:=hu
 cases ao with
 | none=>have:=h0 rfl; omega
 | some ad =>
  obtain ⟨v',w',hrun,r1,r2⟩:=run_append_arg_grows (P:=P) w t ty e i z size bytes ht hi hz hsize hby hzs hsz ⟨g,0,none⟩ n n xs hown.1 (hown.cells (g:=g) rfl) ad m cap news hl (fun j u hj=>by
   obtain ⟨b,off,e',hc'⟩:=hcell j u hj
   simp only [Option.some.injEq] at e'
   subst e'
   rw [add_plain]; exact hc') (by omega) h63 hbytes
  exact ⟨v',w',hrun,r1,⟨r2.os,r2.tape,r2.output,r2.size,fun k hk=>r2.block k hk (by simp)⟩⟩
theorem zgM {P : Program} {ops : Array Oper} {rest : List Oper} {o : Oper} {a : Act} {w : World} {Q : Exit -> Act -> World -> Prop} (hgd : o.guard = none) (s x : Operand) (t : TypeId) (ho : o.op = .call { callee:=.builtin .append,args:=#[s,x],argTypes:=#[t,t] })
  (base : Nat) (e : TypeId) (i : TypeInfo) (z : Value) (size bytes : Nat) (ht : P.underlying t = some (.slice e)) (hi : P.info? e = some i) (hz : i.zero = some z)
  (hsize : i.size = size) (hby : i.bytes = bytes) (hzs : z.cells.size = size) (hsz : 0 < size)
  (v : Value) (n : Nat) (xs : List Value) (hs : a.eval s = v) (hown : zc7 base e size n xs v w) (u : Value) (hx : a.eval x = u) (m : Nat) (news : List Value) (hu : Row w size u m news)
  (hbytes : (n + m) * bytes <= 140737488355328) (hpos : 0 < bytes) (hm0 : 0 < m)
  (h : ∀ v' w',w'.ownsRow w.heap.size e size v' (n + m) (xs ++ news) -> Ext w w' -> wpList P ops Q rest (a.put o.dst v') w') : wpList P ops Q (o :: rest) a w:=by
 refine wpList_plain hgd fun K hK=>?_
 obtain ⟨v',w',hrun,h2,h3⟩:=zhX (P:=P) w base t o.type e i z size bytes ht hi hz hsize hby hzs hsz v n xs hown u m news hu hbytes hpos hm0
 unfold Oper.wp
 simp [execOp,ho,resolve,invoke,builtin,hs,hx,hrun,Result.andThen]
 exact hK _ _ (h v' w' h2 h3)

def zjL (cl : List Cl) (at_ : Int) (sent : Bool) (gen : Int) (b : List UInt8) (l : List (List UInt8)) (gl : List Rp) (me : Int) : Cn :=
 if (readAn b).2 = 0 /\ (readAn b).1.client = me /\ (readAn b).1.token = at_ /\ sent = true then ⟨cl,at_ + 1,false,gen,l,gl ++ [(readAn b).1.reply]⟩ else ⟨cl,at_,sent,gen,l,gl⟩
theorem zpz (cl : List Cl) (at_ : Int) (sent : Bool) (gen : Int) (b : List UInt8) (l : List (List UInt8)) (gl : List Rp) (me gen2 : Int) (up : Bool) : zcI ⟨cl,at_,sent,gen,b :: l,gl⟩ me gen2 up = (zjL cl at_ sent gen b l gl me,[],0):=by
 show (if (readAn b).2 = 0 /\ (readAn b).1.client = me /\ (readAn b).1.token = at_ /\ sent = true then _ else _) = _
 unfold zjL
 split <;> rfl
def zgq (cl : List Cl) (at_ : Int) (sent : Bool) (gen gen2 : Int) (up : Bool) : Int:=if (cl.length : Int) <= at_ then 11 else if ¬ up then 10 else if sent /\ gen = gen2 then 12 else 0

theorem zif (cl : List Cl) (ka : Option Addr) (kc : Nat) (at_ : Int) (sent : Bool) (gen gen2 : Int) (up : Bool) (box got : Value) (w : World) (h0 : 0 <= at_) :
  Calls Tryz.prog 86 #[.agg #[.slice ka cl.length kc,I at_,.bool sent,I gen,box,got],I gen2,.bool up] w fun e w'=>e = .returned (I (zgq cl at_ sent gen gen2 up)) /\ Ext w w':=by
 have EW:=hd (Ext.refl w);have hX0 : zgq cl at_ sent gen gen2 up = if (cl.length : Int) <= at_ then 11 else if ¬ up then 10 else if sent /\ gen = gen2 then 12 else 0:=rfl;by_cases hat : (cl.length : Int) <= at_
 case pos =>
  rw [hX0,if_pos hat];clear hX0;go_enter Tryz.func86,Tryz.ntmps86
  go_wp2_with ((with_reducible refine zT ?_ ?_); exact rfl)
  unfold Hid;refine zaj rfl 63 (.tmp 0) rfl #[.slice ka cl.length kc,I at_,.bool sent,I gen,box,got] rfl (fun b0 w1_ M1=>?_);have zaa:=zmb M1;have c0:=zab (i:=0) zaa.o rfl;have c1:=zab (i:=1) zaa.o rfl;have c2:=zab (i:=2) zaa.o rfl;have c3:=zab (i:=3) zaa.o rfl;go_wp2
  go_ret
  replace EW:=zet EW M1;exact ⟨rfl,EW.o⟩
 rw [hX0,if_neg hat];cases up
 case false =>
  rw [if_pos (by simp)];clear hX0;go_enter Tryz.func86,Tryz.ntmps86
  go_wp2_with ((with_reducible refine zT ?_ ?_); exact rfl)
  unfold Hid;refine zaj rfl 63 (.tmp 0) rfl #[.slice ka cl.length kc,I at_,.bool sent,I gen,box,got] rfl (fun b0 w1_ M1=>?_);have zaa:=zmb M1;have c0:=zab (i:=0) zaa.o rfl;have c1:=zab (i:=1) zaa.o rfl;have c2:=zab (i:=2) zaa.o rfl;have c3:=zab (i:=3) zaa.o rfl;go_wp2
  go_ret
  replace EW:=zet EW M1;exact ⟨rfl,EW.o⟩
 rw [if_neg (by simp)];by_cases hsg : sent = true /\ gen = gen2
 case pos =>
  rw [if_pos hsg];obtain ⟨rfl,rfl⟩:=hsg;clear hX0;go_enter Tryz.func86,Tryz.ntmps86
  go_wp2_with ((with_reducible refine zT ?_ ?_); exact rfl)
  unfold Hid;refine zaj rfl 63 (.tmp 0) rfl #[.slice ka cl.length kc,I at_,.bool true,I gen,box,got] rfl (fun b0 w1_ M1=>?_);have zaa:=zmb M1;have c0:=zab (i:=0) zaa.o rfl;have c1:=zab (i:=1) zaa.o rfl;have c2:=zab (i:=2) zaa.o rfl;have c3:=zab (i:=3) zaa.o rfl;go_wp2
  go_ret
  replace EW:=zet EW M1;exact ⟨rfl,EW.o⟩
 rw [if_neg hsg];clear hX0
 have hsel : (sent = false ∨ (sent = true /\ (gen == gen2) = false)):=by
  cases sent
  ·exact .inl rfl
  ·exact .inr ⟨rfl,by simpa using hsg⟩
 clear hsg;rcases hsel with rfl | ⟨rfl,hgn⟩
 ·go_enter Tryz.func86,Tryz.ntmps86
  go_wp2_with ((with_reducible refine zT ?_ ?_); exact rfl)
  unfold Hid;refine zaj rfl 63 (.tmp 0) rfl #[.slice ka cl.length kc,I at_,.bool false,I gen,box,got] rfl (fun b0 w1_ M1=>?_);have zaa:=zmb M1;have c0:=zab (i:=0) zaa.o rfl;have c1:=zab (i:=1) zaa.o rfl;have c2:=zab (i:=2) zaa.o rfl;have c3:=zab (i:=3) zaa.o rfl;go_wp2
  go_ret
  replace EW:=zet EW M1;exact ⟨rfl,EW.o⟩
 ·go_enter Tryz.func86,Tryz.ntmps86
  go_wp2_with ((with_reducible refine zT ?_ ?_); exact rfl)
  unfold Hid;refine zaj rfl 63 (.tmp 0) rfl #[.slice ka cl.length kc,I at_,.bool true,I gen,box,got] rfl (fun b0 w1_ M1=>?_);have zaa:=zmb M1;have c0:=zab (i:=0) zaa.o rfl;have c1:=zab (i:=1) zaa.o rfl;have c2:=zab (i:=2) zaa.o rfl;have c3:=zab (i:=3) zaa.o rfl;go_wp2
  go_ret
  replace EW:=zet EW M1;exact ⟨rfl,EW.o⟩

theorem zlW (cl : List Cl) (at_ : Int) (sent : Bool) (gen : Int) (b : List UInt8) (l : List (List UInt8)) (gl : List Rp) (calls box : Value) (gg base : Nat) (me : Int) (w : World) (A : Nat -> Prop)
  (hc : Rd A (fun w=>zax 4 zdI w calls cl) w) (hb : Rd A (fun w=>zax 1 zb6 w box (b :: l)) w) (hg : Rd A (fun w=>zax 2 zdN w (.slice (some ⟨gg,0,none⟩) gl.length gl.length) gl) w) (ho : w.ownsRow base 39 2 (.slice (some ⟨gg,0,none⟩) gl.length gl.length) gl.length (zbH gl)) (h0 : 0 <= at_) (h1 : at_ <= 1000000) (hgl : gl.length <= 1000) :
  zaS Tryz.prog 85 #[.agg #[calls,I at_,.bool sent,I gen,box,.slice (some ⟨gg,0,none⟩) gl.length gl.length],I me] w A (fun r w'=>Agg zcM (zjL cl at_ sent gen b l gl me) r w'):=by
 unfold zaS;obtain ⟨ca,cc,rfl⟩:=zaf hc.o;have EW:=hd (Ext.refl w);obtain ⟨B,hB⟩:=zdg A w.heap.size 2;have HK:=hd hB;clear hB;have HC:=hd (hc.widen HK.o.1);have HG:=hd (hg.widen HK.o.1);have OPg:=hd ho;obtain ⟨xb,xo,xc,bv,rfl,hx1,hx2,hf,hrest⟩:=zgp (hb.widen HK.o.1);have HF:=hd hf;have HB:=hd hrest;have HGL:=hd hgl;unfold maxLen at hx2;clear hc hb hg hf hrest hgl ho;obtain ⟨⟨ac,at2,⟨re,rn⟩⟩,ae,hRA⟩ : ∃ x y,readAn b = (x,y):=⟨_,_,rfl⟩;have HRA:=hd hRA
 have hX0 : zjL cl at_ sent gen b l gl me = if ae = 0 /\ ac = me /\ at2 = at_ /\ sent = true then ⟨cl,at_ + 1,false,gen,l,gl ++ [⟨re,rn⟩]⟩ else ⟨cl,at_,sent,gen,l,gl⟩:=by
  unfold zjL;rw [hRA]
 clear hRA;by_cases a1 : ae = 0
 case neg =>
  rw [hX0,if_neg (fun h=>a1 h.1)];have hb_a1 : (ae == 0) = false:=by simpa using a1
  clear hX0;go_enter Tryz.func85,Tryz.ntmps85
  go_wp2_with ((with_reducible refine zT ?_ ?_); exact rfl)
  unfold Hid;refine zaj rfl 63 (.tmp 0) rfl #[.slice ca cl.length cc,I at_,.bool sent,I gen,.slice (some ⟨xb,xo,none⟩) (l.length + 1) xc,.slice (some ⟨gg,0,none⟩) gl.length gl.length] rfl (fun b0 w1_ M1=>?_);have zaa:=zmb M1;go_wp2_with ((with_reducible refine zT ?_ ?_); exact rfl)
  unfold Hid;refine zae rfl 63 zC (by kernel_rfl) (fun b1 w2_ M2=>?_);have zao:=zld zaa M2;have zad:=zmb M2;have zaD:=zA0 M1;have zaq:=znb HK zaD (by decide);have za1:=zob zaD;have zaJ:=zA1 zaD M1 M2;have zar:=znb HK zaJ (by decide);have zaU:=zob zaJ;replace zaa:=zmo M2 zaa;have c4:=zab (i:=4) zaa.o rfl;replace HF:=zme M2 (zme M1 HF);have cx:=HF.o.o.1;go_wp2_with (first | ((with_reducible refine zT ?_ ?_); exact rfl) | ((with_reducible refine zsc ?_ ?_); exact rfl))
  unfold Hid;clear c4 cx;replace HC:=zme M2 (zme M1 HC);replace HB:=zme M2 (zme M1 HB);replace HG:=zme M2 (zme M1 HG);replace OPg:=hd (zal (hd (zal OPg.o M1.o.ext)).o M2.o.ext);replace EW:=zet (zet EW M1) M2;refine zc6 rfl l.length (fun na nc=>Rd B (fun w=>zax 1 zb6 w (.slice na l.length nc) l) w2_) ?_ (fun na' nc' hn=>?_)
  ·by_cases hcap : xc = 1
   ·have hl0 : l = []:=List.eq_nil_of_length_eq_zero (by omega);refine ⟨some ⟨xb,xo,none⟩,0,by rw [hl0]; exact Rd.all fun w=>zcO w xb xo 0 (by decide),?_⟩;rw [hl0];subst hcap;go_simp
   ·exact ⟨some ⟨xb,xo + 1,none⟩,xc - 1,HB.o,by go_simp; intro h; omega⟩
  replace HB:=hd hn;clear hn hx1 hx2;go_wp2_with ((with_reducible refine zT ?_ ?_); exact rfl)
  unfold Hid;refine zai rfl 32 (.tmp 15) (.tmp 14) rfl b0 4 rfl [(.slice na' l.length nc')] (rfl) zaa rfl zeZ rfl [.slice ca cl.length cc,I at_,.bool sent,I gen,(.slice na' l.length nc'),.slice (some ⟨gg,0,none⟩) gl.length gl.length] rfl (fun w3_ M3=>?_);replace OPg:=hd (OPg.o.kept M3.o.grown (.inr (za5 OPg.o zaa.o (by decide))));replace zaa:=zwb M3;go_wp2_with fail
  replace HF:=zwr M3 HF zaq;have hl:=zcr bv b w3_ HF.o.o.2;rw [HRA.o] at hl;refine Calls.exts hl (fun wa ea=>?_);clear hl;go_wp2_with ((with_reducible refine zT ?_ ?_); exact rfl)
  unfold Hid;refine zae rfl 99 #[I 0,I 0,I 0,I 0] (by kernel_rfl) (fun b2 w4_ M4=>?_);replace zaa:=zbx zaa ea;have zaA:=zld zaa M4;replace zad:=zbx (zwg M3 zad zao) ea;have zaB:=zld zad M4;obtain ⟨B1,HB1⟩:=zEx B b2;have zaC:=zNn HB1;have zc0:=zIn HB1;replace EW:=hd ((zwe M3 EW za1).o.trans ea);have zba:=zOn M4 EW;have zak:=zmb M4;go_wp2_with ((with_reducible refine zT ?_ ?_); exact rfl)
  unfold Hid;refine zac rfl 99 (.tmp 6) (.tmp 19) rfl b2 rfl [I ac,I at2,I re,I rn] (rfl) zak rfl zfD rfl (fun w5_ M5=>?_);replace OPg:=hd (zal (hd (zal OPg.o ea)).o M4.o.ext);replace OPg:=hd (OPg.o.kept M5.o.grown (.inr (za5 OPg.o zak.o (by decide))));replace zak:=zwb M5;have d0:=zab (i:=0) zak.o rfl;have d1:=zab (i:=1) zak.o rfl;replace zaa:=zwl M5 (zmo M4 zaa) zaA;have c1:=zab (i:=1) zaa.o rfl;have c2:=zab (i:=2) zaa.o rfl;go_wp2_with ((with_reducible refine zT ?_ ?_); exact rfl)
  unfold Hid;clear d0 d1 c1 c2;refine zah rfl 63 (.tmp 2) rfl b0 rfl zaa zu63 zbI (fun v41 H_v41=>?_);go_wp2_with ((with_reducible refine zT ?_ ?_); exact rfl)
  unfold Hid;replace zad:=zwl M5 (zmo M4 zad) zaB;refine zac rfl 63 (.tmp 4) (.tmp 41) rfl b1 rfl _ (zcv H_v41) zad rfl zbI rfl (fun w6_ M6=>?_);replace OPg:=hd (OPg.o.kept M6.o.grown (.inr (za5 OPg.o zad.o (by decide))));replace zad:=zwb M6;replace zar:=znw HB1 zar;go_wp2
  have z0:=zas (P:=Tryz.prog) 63 zad.o zu63 (by kernel_rfl);refine bodyPost_ret (by simp [results,Tryz.results85,asAddr,z0,Act.put]; rfl) rfl ?_;replace HC:=zwr M6 (zwr M5 (zme M4 (zmd HB1 M4 (zrx (zwr M3 HC zaq) ea))) zaC) zar;replace HB:=zwr M6 (zwr M5 (zme M4 (zmd HB1 M4 (zrx (zwr M3 HB zaq) ea))) zaC) zar;replace HG:=zwr M6 (zwr M5 (zme M4 (zmd HB1 M4 (zrx (zwr M3 HG zaq) ea))) zaC) zar;replace EW:=zwe M6 (zwe M5 (zet EW M4) zba) zaU;exact ⟨_,rfl,EW.o,Rd.widen (A:=B1) (zbY (zcG (c:=⟨cl,at_,sent,gen,l,gl⟩) HC.o HB.o HG.o)) (fun k _ h=>HK.o.2.2.2 k (zc0.o k h))⟩
 subst a1;by_cases a2 : ac = me
 case neg =>
  rw [hX0,if_neg (fun h=>a2 h.2.1)];have hb_a2 : (ac == me) = false:=by simpa using a2
  clear hX0;go_enter Tryz.func85,Tryz.ntmps85
  go_wp2_with ((with_reducible refine zT ?_ ?_); exact rfl)
  unfold Hid;refine zaj rfl 63 (.tmp 0) rfl #[.slice ca cl.length cc,I at_,.bool sent,I gen,.slice (some ⟨xb,xo,none⟩) (l.length + 1) xc,.slice (some ⟨gg,0,none⟩) gl.length gl.length] rfl (fun b0 w1_ M1=>?_);have zaa:=zmb M1;go_wp2_with ((with_reducible refine zT ?_ ?_); exact rfl)
  unfold Hid;refine zae rfl 63 zC (by kernel_rfl) (fun b1 w2_ M2=>?_);have zao:=zld zaa M2;have zad:=zmb M2;have zaD:=zA0 M1;have zaq:=znb HK zaD (by decide);have za1:=zob zaD;have zaJ:=zA1 zaD M1 M2;have zar:=znb HK zaJ (by decide);have zaU:=zob zaJ;replace zaa:=zmo M2 zaa;have c4:=zab (i:=4) zaa.o rfl;replace HF:=zme M2 (zme M1 HF);have cx:=HF.o.o.1;go_wp2_with (first | ((with_reducible refine zT ?_ ?_); exact rfl) | ((with_reducible refine zsc ?_ ?_); exact rfl))
  unfold Hid;clear c4 cx;replace HC:=zme M2 (zme M1 HC);replace HB:=zme M2 (zme M1 HB);replace HG:=zme M2 (zme M1 HG);replace OPg:=hd (zal (hd (zal OPg.o M1.o.ext)).o M2.o.ext);replace EW:=zet (zet EW M1) M2;refine zc6 rfl l.length (fun na nc=>Rd B (fun w=>zax 1 zb6 w (.slice na l.length nc) l) w2_) ?_ (fun na' nc' hn=>?_)
  ·by_cases hcap : xc = 1
   ·have hl0 : l = []:=List.eq_nil_of_length_eq_zero (by omega);refine ⟨some ⟨xb,xo,none⟩,0,by rw [hl0]; exact Rd.all fun w=>zcO w xb xo 0 (by decide),?_⟩;rw [hl0];subst hcap;go_simp
   ·exact ⟨some ⟨xb,xo + 1,none⟩,xc - 1,HB.o,by go_simp; intro h; omega⟩
  replace HB:=hd hn;clear hn hx1 hx2;go_wp2_with ((with_reducible refine zT ?_ ?_); exact rfl)
  unfold Hid;refine zai rfl 32 (.tmp 15) (.tmp 14) rfl b0 4 rfl [(.slice na' l.length nc')] (rfl) zaa rfl zeZ rfl [.slice ca cl.length cc,I at_,.bool sent,I gen,(.slice na' l.length nc'),.slice (some ⟨gg,0,none⟩) gl.length gl.length] rfl (fun w3_ M3=>?_);replace OPg:=hd (OPg.o.kept M3.o.grown (.inr (za5 OPg.o zaa.o (by decide))));replace zaa:=zwb M3;go_wp2_with fail
  replace HF:=zwr M3 HF zaq;have hl:=zcr bv b w3_ HF.o.o.2;rw [HRA.o] at hl;refine Calls.exts hl (fun wa ea=>?_);clear hl;go_wp2_with ((with_reducible refine zT ?_ ?_); exact rfl)
  unfold Hid;refine zae rfl 99 #[I 0,I 0,I 0,I 0] (by kernel_rfl) (fun b2 w4_ M4=>?_);replace zaa:=zbx zaa ea;have zaA:=zld zaa M4;replace zad:=zbx (zwg M3 zad zao) ea;have zaB:=zld zad M4;obtain ⟨B1,HB1⟩:=zEx B b2;have zaC:=zNn HB1;have zc0:=zIn HB1;replace EW:=hd ((zwe M3 EW za1).o.trans ea);have zba:=zOn M4 EW;have zak:=zmb M4;go_wp2_with ((with_reducible refine zT ?_ ?_); exact rfl)
  unfold Hid;refine zac rfl 99 (.tmp 6) (.tmp 19) rfl b2 rfl [I ac,I at2,I re,I rn] (rfl) zak rfl zfD rfl (fun w5_ M5=>?_);replace OPg:=hd (zal (hd (zal OPg.o ea)).o M4.o.ext);replace OPg:=hd (OPg.o.kept M5.o.grown (.inr (za5 OPg.o zak.o (by decide))));replace zak:=zwb M5;have d0:=zab (i:=0) zak.o rfl;have d1:=zab (i:=1) zak.o rfl;replace zaa:=zwl M5 (zmo M4 zaa) zaA;have c1:=zab (i:=1) zaa.o rfl;have c2:=zab (i:=2) zaa.o rfl;go_wp2_with ((with_reducible refine zT ?_ ?_); exact rfl)
  unfold Hid;clear d0 d1 c1 c2;refine zah rfl 63 (.tmp 2) rfl b0 rfl zaa zu63 zbI (fun v41 H_v41=>?_);go_wp2_with ((with_reducible refine zT ?_ ?_); exact rfl)
  unfold Hid;replace zad:=zwl M5 (zmo M4 zad) zaB;refine zac rfl 63 (.tmp 4) (.tmp 41) rfl b1 rfl _ (zcv H_v41) zad rfl zbI rfl (fun w6_ M6=>?_);replace OPg:=hd (OPg.o.kept M6.o.grown (.inr (za5 OPg.o zad.o (by decide))));replace zad:=zwb M6;replace zar:=znw HB1 zar;go_wp2
  have z0:=zas (P:=Tryz.prog) 63 zad.o zu63 (by kernel_rfl);refine bodyPost_ret (by simp [results,Tryz.results85,asAddr,z0,Act.put]; rfl) rfl ?_;replace HC:=zwr M6 (zwr M5 (zme M4 (zmd HB1 M4 (zrx (zwr M3 HC zaq) ea))) zaC) zar;replace HB:=zwr M6 (zwr M5 (zme M4 (zmd HB1 M4 (zrx (zwr M3 HB zaq) ea))) zaC) zar;replace HG:=zwr M6 (zwr M5 (zme M4 (zmd HB1 M4 (zrx (zwr M3 HG zaq) ea))) zaC) zar;replace EW:=zwe M6 (zwe M5 (zet EW M4) zba) zaU;exact ⟨_,rfl,EW.o,Rd.widen (A:=B1) (zbY (zcG (c:=⟨cl,at_,sent,gen,l,gl⟩) HC.o HB.o HG.o)) (fun k _ h=>HK.o.2.2.2 k (zc0.o k h))⟩
 subst a2;by_cases a3 : at2 = at_
 case neg =>
  rw [hX0,if_neg (fun h=>a3 h.2.2.1)];have hb_a3 : (at2 == at_) = false:=by simpa using a3
  clear hX0;go_enter Tryz.func85,Tryz.ntmps85
  go_wp2_with ((with_reducible refine zT ?_ ?_); exact rfl)
  unfold Hid;refine zaj rfl 63 (.tmp 0) rfl #[.slice ca cl.length cc,I at_,.bool sent,I gen,.slice (some ⟨xb,xo,none⟩) (l.length + 1) xc,.slice (some ⟨gg,0,none⟩) gl.length gl.length] rfl (fun b0 w1_ M1=>?_);have zaa:=zmb M1;go_wp2_with ((with_reducible refine zT ?_ ?_); exact rfl)
  unfold Hid;refine zae rfl 63 zC (by kernel_rfl) (fun b1 w2_ M2=>?_);have zao:=zld zaa M2;have zad:=zmb M2;have zaD:=zA0 M1;have zaq:=znb HK zaD (by decide);have za1:=zob zaD;have zaJ:=zA1 zaD M1 M2;have zar:=znb HK zaJ (by decide);have zaU:=zob zaJ;replace zaa:=zmo M2 zaa;have c4:=zab (i:=4) zaa.o rfl;replace HF:=zme M2 (zme M1 HF);have cx:=HF.o.o.1;go_wp2_with (first | ((with_reducible refine zT ?_ ?_); exact rfl) | ((with_reducible refine zsc ?_ ?_); exact rfl))
  unfold Hid;clear c4 cx;replace HC:=zme M2 (zme M1 HC);replace HB:=zme M2 (zme M1 HB);replace HG:=zme M2 (zme M1 HG);replace OPg:=hd (zal (hd (zal OPg.o M1.o.ext)).o M2.o.ext);replace EW:=zet (zet EW M1) M2;refine zc6 rfl l.length (fun na nc=>Rd B (fun w=>zax 1 zb6 w (.slice na l.length nc) l) w2_) ?_ (fun na' nc' hn=>?_)
  ·by_cases hcap : xc = 1
   ·have hl0 : l = []:=List.eq_nil_of_length_eq_zero (by omega);refine ⟨some ⟨xb,xo,none⟩,0,by rw [hl0]; exact Rd.all fun w=>zcO w xb xo 0 (by decide),?_⟩;rw [hl0];subst hcap;go_simp
   ·exact ⟨some ⟨xb,xo + 1,none⟩,xc - 1,HB.o,by go_simp; intro h; omega⟩
  replace HB:=hd hn;clear hn hx1 hx2;go_wp2_with ((with_reducible refine zT ?_ ?_); exact rfl)
  unfold Hid;refine zai rfl 32 (.tmp 15) (.tmp 14) rfl b0 4 rfl [(.slice na' l.length nc')] (rfl) zaa rfl zeZ rfl [.slice ca cl.length cc,I at_,.bool sent,I gen,(.slice na' l.length nc'),.slice (some ⟨gg,0,none⟩) gl.length gl.length] rfl (fun w3_ M3=>?_);replace OPg:=hd (OPg.o.kept M3.o.grown (.inr (za5 OPg.o zaa.o (by decide))));replace zaa:=zwb M3;go_wp2_with fail
  replace HF:=zwr M3 HF zaq;have hl:=zcr bv b w3_ HF.o.o.2;rw [HRA.o] at hl;refine Calls.exts hl (fun wa ea=>?_);clear hl;go_wp2_with ((with_reducible refine zT ?_ ?_); exact rfl)
  unfold Hid;refine zae rfl 99 #[I 0,I 0,I 0,I 0] (by kernel_rfl) (fun b2 w4_ M4=>?_);replace zaa:=zbx zaa ea;have zaA:=zld zaa M4;replace zad:=zbx (zwg M3 zad zao) ea;have zaB:=zld zad M4;obtain ⟨B1,HB1⟩:=zEx B b2;have zaC:=zNn HB1;have zc0:=zIn HB1;replace EW:=hd ((zwe M3 EW za1).o.trans ea);have zba:=zOn M4 EW;have zak:=zmb M4;go_wp2_with ((with_reducible refine zT ?_ ?_); exact rfl)
  unfold Hid;refine zac rfl 99 (.tmp 6) (.tmp 19) rfl b2 rfl [I ac,I at2,I re,I rn] (rfl) zak rfl zfD rfl (fun w5_ M5=>?_);replace OPg:=hd (zal (hd (zal OPg.o ea)).o M4.o.ext);replace OPg:=hd (OPg.o.kept M5.o.grown (.inr (za5 OPg.o zak.o (by decide))));replace zak:=zwb M5;have d0:=zab (i:=0) zak.o rfl;have d1:=zab (i:=1) zak.o rfl;replace zaa:=zwl M5 (zmo M4 zaa) zaA;have c1:=zab (i:=1) zaa.o rfl;have c2:=zab (i:=2) zaa.o rfl;go_wp2_with ((with_reducible refine zT ?_ ?_); exact rfl)
  unfold Hid;clear d0 d1 c1 c2;refine zah rfl 63 (.tmp 2) rfl b0 rfl zaa zu63 zbI (fun v41 H_v41=>?_);go_wp2_with ((with_reducible refine zT ?_ ?_); exact rfl)
  unfold Hid;replace zad:=zwl M5 (zmo M4 zad) zaB;refine zac rfl 63 (.tmp 4) (.tmp 41) rfl b1 rfl _ (zcv H_v41) zad rfl zbI rfl (fun w6_ M6=>?_);replace OPg:=hd (OPg.o.kept M6.o.grown (.inr (za5 OPg.o zad.o (by decide))));replace zad:=zwb M6;replace zar:=znw HB1 zar;go_wp2
  have z0:=zas (P:=Tryz.prog) 63 zad.o zu63 (by kernel_rfl);refine bodyPost_ret (by simp [results,Tryz.results85,asAddr,z0,Act.put]; rfl) rfl ?_;replace HC:=zwr M6 (zwr M5 (zme M4 (zmd HB1 M4 (zrx (zwr M3 HC zaq) ea))) zaC) zar;replace HB:=zwr M6 (zwr M5 (zme M4 (zmd HB1 M4 (zrx (zwr M3 HB zaq) ea))) zaC) zar;replace HG:=zwr M6 (zwr M5 (zme M4 (zmd HB1 M4 (zrx (zwr M3 HG zaq) ea))) zaC) zar;replace EW:=zwe M6 (zwe M5 (zet EW M4) zba) zaU;exact ⟨_,rfl,EW.o,Rd.widen (A:=B1) (zbY (zcG (c:=⟨cl,at_,sent,gen,l,gl⟩) HC.o HB.o HG.o)) (fun k _ h=>HK.o.2.2.2 k (zc0.o k h))⟩
 replace a3:=a3.symm;subst a3;cases sent
 case false =>
  rw [hX0,if_neg (fun h=>by cases h.2.2.2)];clear hX0;go_enter Tryz.func85,Tryz.ntmps85
  go_wp2_with ((with_reducible refine zT ?_ ?_); exact rfl)
  unfold Hid;refine zaj rfl 63 (.tmp 0) rfl #[.slice ca cl.length cc,I at_,.bool false,I gen,.slice (some ⟨xb,xo,none⟩) (l.length + 1) xc,.slice (some ⟨gg,0,none⟩) gl.length gl.length] rfl (fun b0 w1_ M1=>?_);have zaa:=zmb M1;go_wp2_with ((with_reducible refine zT ?_ ?_); exact rfl)
  unfold Hid;refine zae rfl 63 zC (by kernel_rfl) (fun b1 w2_ M2=>?_);have zao:=zld zaa M2;have zad:=zmb M2;have zaD:=zA0 M1;have zaq:=znb HK zaD (by decide);have za1:=zob zaD;have zaJ:=zA1 zaD M1 M2;have zar:=znb HK zaJ (by decide);have zaU:=zob zaJ;replace zaa:=zmo M2 zaa;have c4:=zab (i:=4) zaa.o rfl;replace HF:=zme M2 (zme M1 HF);have cx:=HF.o.o.1;go_wp2_with (first | ((with_reducible refine zT ?_ ?_); exact rfl) | ((with_reducible refine zsc ?_ ?_); exact rfl))
  unfold Hid;clear c4 cx;replace HC:=zme M2 (zme M1 HC);replace HB:=zme M2 (zme M1 HB);replace HG:=zme M2 (zme M1 HG);replace OPg:=hd (zal (hd (zal OPg.o M1.o.ext)).o M2.o.ext);replace EW:=zet (zet EW M1) M2;refine zc6 rfl l.length (fun na nc=>Rd B (fun w=>zax 1 zb6 w (.slice na l.length nc) l) w2_) ?_ (fun na' nc' hn=>?_)
  ·by_cases hcap : xc = 1
   ·have hl0 : l = []:=List.eq_nil_of_length_eq_zero (by omega);refine ⟨some ⟨xb,xo,none⟩,0,by rw [hl0]; exact Rd.all fun w=>zcO w xb xo 0 (by decide),?_⟩;rw [hl0];subst hcap;go_simp
   ·exact ⟨some ⟨xb,xo + 1,none⟩,xc - 1,HB.o,by go_simp; intro h; omega⟩
  replace HB:=hd hn;clear hn hx1 hx2;go_wp2_with ((with_reducible refine zT ?_ ?_); exact rfl)
  unfold Hid;refine zai rfl 32 (.tmp 15) (.tmp 14) rfl b0 4 rfl [(.slice na' l.length nc')] (rfl) zaa rfl zeZ rfl [.slice ca cl.length cc,I at_,.bool false,I gen,(.slice na' l.length nc'),.slice (some ⟨gg,0,none⟩) gl.length gl.length] rfl (fun w3_ M3=>?_);replace OPg:=hd (OPg.o.kept M3.o.grown (.inr (za5 OPg.o zaa.o (by decide))));replace zaa:=zwb M3;go_wp2_with fail
  replace HF:=zwr M3 HF zaq;have hl:=zcr bv b w3_ HF.o.o.2;rw [HRA.o] at hl;refine Calls.exts hl (fun wa ea=>?_);clear hl;go_wp2_with ((with_reducible refine zT ?_ ?_); exact rfl)
  unfold Hid;refine zae rfl 99 #[I 0,I 0,I 0,I 0] (by kernel_rfl) (fun b2 w4_ M4=>?_);replace zaa:=zbx zaa ea;have zaA:=zld zaa M4;replace zad:=zbx (zwg M3 zad zao) ea;have zaB:=zld zad M4;obtain ⟨B1,HB1⟩:=zEx B b2;have zaC:=zNn HB1;have zc0:=zIn HB1;replace EW:=hd ((zwe M3 EW za1).o.trans ea);have zba:=zOn M4 EW;have zak:=zmb M4;go_wp2_with ((with_reducible refine zT ?_ ?_); exact rfl)
  unfold Hid;refine zac rfl 99 (.tmp 6) (.tmp 19) rfl b2 rfl [I ac,I at_,I re,I rn] (rfl) zak rfl zfD rfl (fun w5_ M5=>?_);replace OPg:=hd (zal (hd (zal OPg.o ea)).o M4.o.ext);replace OPg:=hd (OPg.o.kept M5.o.grown (.inr (za5 OPg.o zak.o (by decide))));replace zak:=zwb M5;have d0:=zab (i:=0) zak.o rfl;have d1:=zab (i:=1) zak.o rfl;replace zaa:=zwl M5 (zmo M4 zaa) zaA;have c1:=zab (i:=1) zaa.o rfl;have c2:=zab (i:=2) zaa.o rfl;go_wp2_with ((with_reducible refine zT ?_ ?_); exact rfl)
  unfold Hid;clear d0 d1 c1 c2;refine zah rfl 63 (.tmp 2) rfl b0 rfl zaa zu63 zbI (fun v41 H_v41=>?_);go_wp2_with ((with_reducible refine zT ?_ ?_); exact rfl)
  unfold Hid;replace zad:=zwl M5 (zmo M4 zad) zaB;refine zac rfl 63 (.tmp 4) (.tmp 41) rfl b1 rfl _ (zcv H_v41) zad rfl zbI rfl (fun w6_ M6=>?_);replace OPg:=hd (OPg.o.kept M6.o.grown (.inr (za5 OPg.o zad.o (by decide))));replace zad:=zwb M6;replace zar:=znw HB1 zar;go_wp2
  have z0:=zas (P:=Tryz.prog) 63 zad.o zu63 (by kernel_rfl);refine bodyPost_ret (by simp [results,Tryz.results85,asAddr,z0,Act.put]; rfl) rfl ?_;replace HC:=zwr M6 (zwr M5 (zme M4 (zmd HB1 M4 (zrx (zwr M3 HC zaq) ea))) zaC) zar;replace HB:=zwr M6 (zwr M5 (zme M4 (zmd HB1 M4 (zrx (zwr M3 HB zaq) ea))) zaC) zar;replace HG:=zwr M6 (zwr M5 (zme M4 (zmd HB1 M4 (zrx (zwr M3 HG zaq) ea))) zaC) zar;replace EW:=zwe M6 (zwe M5 (zet EW M4) zba) zaU;exact ⟨_,rfl,EW.o,Rd.widen (A:=B1) (zbY (zcG (c:=⟨cl,at_,false,gen,l,gl⟩) HC.o HB.o HG.o)) (fun k _ h=>HK.o.2.2.2 k (zc0.o k h))⟩
 rw [hX0,if_pos ⟨rfl,rfl,rfl,rfl⟩];clear hX0;go_enter Tryz.func85,Tryz.ntmps85
 go_wp2_with ((with_reducible refine zT ?_ ?_); exact rfl)
 unfold Hid;refine zaj rfl 63 (.tmp 0) rfl #[.slice ca cl.length cc,I at_,.bool true,I gen,.slice (some ⟨xb,xo,none⟩) (l.length + 1) xc,.slice (some ⟨gg,0,none⟩) gl.length gl.length] rfl (fun b0 w1_ M1=>?_);have zaa:=zmb M1;go_wp2_with ((with_reducible refine zT ?_ ?_); exact rfl)
 unfold Hid;refine zae rfl 63 zC (by kernel_rfl) (fun b1 w2_ M2=>?_);have zao:=zld zaa M2;have zad:=zmb M2;have zaD:=zA0 M1;have zaq:=znb HK zaD (by decide);have za1:=zob zaD;have zaJ:=zA1 zaD M1 M2;have zar:=znb HK zaJ (by decide);have zaU:=zob zaJ;replace zaa:=zmo M2 zaa;have c4:=zab (i:=4) zaa.o rfl;replace HF:=zme M2 (zme M1 HF);have cx:=HF.o.o.1;go_wp2_with (first | ((with_reducible refine zT ?_ ?_); exact rfl) | ((with_reducible refine zsc ?_ ?_); exact rfl))
 unfold Hid;clear c4 cx;replace HC:=zme M2 (zme M1 HC);replace HB:=zme M2 (zme M1 HB);replace HG:=zme M2 (zme M1 HG);replace OPg:=hd (zal (hd (zal OPg.o M1.o.ext)).o M2.o.ext);replace EW:=zet (zet EW M1) M2;refine zc6 rfl l.length (fun na nc=>Rd B (fun w=>zax 1 zb6 w (.slice na l.length nc) l) w2_) ?_ (fun na' nc' hn=>?_)
 ·by_cases hcap : xc = 1
  ·have hl0 : l = []:=List.eq_nil_of_length_eq_zero (by omega);refine ⟨some ⟨xb,xo,none⟩,0,by rw [hl0]; exact Rd.all fun w=>zcO w xb xo 0 (by decide),?_⟩;rw [hl0];subst hcap;go_simp
  ·exact ⟨some ⟨xb,xo + 1,none⟩,xc - 1,HB.o,by go_simp; intro h; omega⟩
 replace HB:=hd hn;clear hn hx1 hx2;go_wp2_with ((with_reducible refine zT ?_ ?_); exact rfl)
 unfold Hid;refine zai rfl 32 (.tmp 15) (.tmp 14) rfl b0 4 rfl [(.slice na' l.length nc')] (rfl) zaa rfl zeZ rfl [.slice ca cl.length cc,I at_,.bool true,I gen,(.slice na' l.length nc'),.slice (some ⟨gg,0,none⟩) gl.length gl.length] rfl (fun w3_ M3=>?_);replace OPg:=hd (OPg.o.kept M3.o.grown (.inr (za5 OPg.o zaa.o (by decide))));replace zaa:=zwb M3;go_wp2_with fail
 replace HF:=zwr M3 HF zaq;have hl:=zcr bv b w3_ HF.o.o.2;rw [HRA.o] at hl;refine Calls.exts hl (fun wa ea=>?_);clear hl;go_wp2_with ((with_reducible refine zT ?_ ?_); exact rfl)
 unfold Hid;refine zae rfl 99 #[I 0,I 0,I 0,I 0] (by kernel_rfl) (fun b2 w4_ M4=>?_);replace zaa:=zbx zaa ea;have zaA:=zld zaa M4;replace zad:=zbx (zwg M3 zad zao) ea;have zaB:=zld zad M4;obtain ⟨B1,HB1⟩:=zEx B b2;have zaC:=zNn HB1;have zc0:=zIn HB1;replace EW:=hd ((zwe M3 EW za1).o.trans ea);have zba:=zOn M4 EW;have zak:=zmb M4;go_wp2_with ((with_reducible refine zT ?_ ?_); exact rfl)
 unfold Hid;refine zac rfl 99 (.tmp 6) (.tmp 19) rfl b2 rfl [I ac,I at_,I re,I rn] (rfl) zak rfl zfD rfl (fun w5_ M5=>?_);replace OPg:=hd (zal (hd (zal OPg.o ea)).o M4.o.ext);replace OPg:=hd (OPg.o.kept M5.o.grown (.inr (za5 OPg.o zak.o (by decide))));replace zak:=zwb M5;have d0:=zab (i:=0) zak.o rfl;have d1:=zab (i:=1) zak.o rfl;replace zaa:=zwl M5 (zmo M4 zaa) zaA;have c1:=zab (i:=1) zaa.o rfl;have c2:=zab (i:=2) zaa.o rfl;have x5:=zab (i:=5) zaa.o rfl;have y2:=zab (i:=2) zak.o rfl;have y3:=zab (i:=3) zak.o rfl;go_wp2_with ((with_reducible refine zT ?_ ?_); exact rfl)
 unfold Hid;clear d0 d1 c1 c2 x5 y2 y3;obtain ⟨i0,hi,hz0,hz1,hz2⟩:=info_parts Tryz.infoRp;have HI:=hd hi;clear hi;refine zbT rfl 39 1 #[I re,I rn] (by kernel_rfl) (fun b3 w6_ M6=>?_);replace zad:=zwl M5 (zmo M4 zad) zaB;obtain ⟨B11,HB11⟩:=zEx B1 b3;have zf1:=zIn HB11;replace EW:=zwe M5 (zet EW M4) zba;have zat:=zmb M6;go_wp2_with (first | (at_builtin; refine zbD ?_) | ((with_reducible refine zT ?_ ?_); exact rfl))
 unfold Hid;replace OPg:=hd (zal OPg.o M6.o.ext);refine zgM rfl (.tmp 43) (.tmp 46) 55 rfl base 39 i0 (.agg #[.int .i64 0,.int .i64 0]) 2 16 zu55 HI.o hz0 hz1 hz2 rfl (by decide) _ gl.length (zbH gl) rfl ⟨gg,rfl,OPg.o⟩ (.slice (some ⟨b3,0,none⟩) 1 1) rfl 1 (zbH [⟨re,rn⟩]) (Row.of_owns (zeC (base:=0) (size:=2) M6.o (Nat.zero_le _) rfl (by decide))) (by have:=HGL.o; omega) (by decide) (by decide) ?_;intro v47 w9 ho9 e9;have hro : Rd (fun k=>w6_.heap.size <= k) (fun w=>zax 2 zdN w v47 (gl ++ [⟨re,rn⟩])) w9:=zf9 (by rw [zea]; exact ho9);obtain ⟨qa,qc,hqs⟩:=zaf hro.o;rw [show (gl ++ [(⟨re,rn⟩ : Rp)]).length = gl.length + 1 by simp] at hqs;subst hqs;replace zad:=zmo M6 zad;have hsz : w.heap.size + 2 <= w6_.heap.size:=by have q:=(zlt zad); have q2:=zaJ.o; omega
 replace zak:=zmo M6 zak;have hsz2 : b2 < w6_.heap.size:=(zlt zak);have hsz3 : b3 < w6_.heap.size:=(zlt zat);have HRO:=hd (hro.widen (B:=B11) (fun k _ h=>(HB11.o k).2 ⟨(HB1.o k).2 ⟨HK.o.2.1 k (by omega),by omega⟩,by omega⟩));clear hro ho9 hsz hsz2 hsz3;replace HC:=zrx (zme M6 (zmd HB11 M6 (zwr M5 (zme M4 (zmd HB1 M4 (zrx (zwr M3 HC zaq) ea))) zaC))) e9;replace HB:=zrx (zme M6 (zmd HB11 M6 (zwr M5 (zme M4 (zmd HB1 M4 (zrx (zwr M3 HB zaq) ea))) zaC))) e9;replace HG:=zrx (zme M6 (zmd HB11 M6 (zwr M5 (zme M4 (zmd HB1 M4 (zrx (zwr M3 HG zaq) ea))) zaC))) e9;replace HF:=zrx (zme M6 (zmd HB11 M6 (zwr M5 (zme M4 (zmd HB1 M4 (zrx HF ea))) zaC))) e9;replace zaa:=zbx (zmo M6 zaa) e9;replace EW:=hd ((zet EW M6).o.trans e9);replace zad:=zbx zad e9;replace zak:=zbx zak e9;replace zat:=zbx zat e9;replace OPg:=hd (zal OPg.o e9);clear e9;go_wp2_with ((with_reducible refine zT ?_ ?_); exact rfl)
 unfold Hid;refine zai rfl 55 (.tmp 48) (.tmp 47) rfl b0 5 rfl [.slice qa (gl.length + 1) qc] (rfl) zaa rfl zpd rfl [.slice ca cl.length cc,I at_,.bool true,I gen,(.slice na' l.length nc'),.slice qa (gl.length + 1) qc] rfl (fun w7_ M7=>?_);replace OPg:=hd (OPg.o.kept M7.o.grown (.inr (za5 OPg.o zaa.o (by decide))));replace zaa:=zwb M7;replace zaq:=znw HB11 (znw HB1 zaq);have c1:=zab (i:=1) zaa.o rfl;go_wp2_with ((with_reducible refine zT ?_ ?_); exact rfl)
 unfold Hid;clear c1;refine zai rfl 3 (.tmp 52) (.tmp 51) rfl b0 1 rfl [I (at_ + 1)] (rfl) zaa rfl zi3 rfl [.slice ca cl.length cc,I (at_ + 1),.bool true,I gen,(.slice na' l.length nc'),.slice qa (gl.length + 1) qc] rfl (fun w8_ M8=>?_);replace OPg:=hd (OPg.o.kept M8.o.grown (.inr (za5 OPg.o zaa.o (by decide))));replace zaa:=zwb M8;go_wp2_with ((with_reducible refine zT ?_ ?_); exact rfl)
 unfold Hid;refine zai rfl 4 (.tmp 53) (.const (.bool false)) rfl b0 2 rfl [.bool false] (rfl) zaa rfl zi4 rfl [.slice ca cl.length cc,I (at_ + 1),.bool false,I gen,(.slice na' l.length nc'),.slice qa (gl.length + 1) qc] rfl (fun w9_ M9=>?_);replace OPg:=hd (OPg.o.kept M9.o.grown (.inr (za5 OPg.o zaa.o (by decide))));replace zaa:=zwb M9;go_wp2_with ((with_reducible refine zT ?_ ?_); exact rfl)
 unfold Hid;refine zah rfl 63 (.tmp 2) rfl b0 rfl zaa zu63 zbI (fun v54 H_v54=>?_);go_wp2_with ((with_reducible refine zT ?_ ?_); exact rfl)
 unfold Hid;replace zad:=zwg M9 (zwg M8 (zwg M7 zad zao) zao) zao;refine zac rfl 63 (.tmp 4) (.tmp 54) rfl b1 rfl _ (zcv H_v54) zad rfl zbI rfl (fun w10_ M10=>?_);replace OPg:=hd (OPg.o.kept M10.o.grown (.inr (za5 OPg.o zad.o (by decide))));replace zad:=zwb M10;replace zar:=znw HB11 (znw HB1 zar);go_wp2
 have z0:=zas (P:=Tryz.prog) 63 zad.o zu63 (by kernel_rfl);refine bodyPost_ret (by simp [results,Tryz.results85,asAddr,z0,Act.put]; rfl) rfl ?_;replace HC:=zwr M10 (zwr M9 (zwr M8 (zwr M7 HC zaq) zaq) zaq) zar;replace HB:=zwr M10 (zwr M9 (zwr M8 (zwr M7 HB zaq) zaq) zaq) zar;replace HRO:=zwr M10 (zwr M9 (zwr M8 (zwr M7 HRO zaq) zaq) zaq) zar;replace EW:=zwe M10 (zwe M9 (zwe M8 (zwe M7 EW za1) za1) za1) zaU;exact ⟨_,rfl,EW.o,Rd.widen (A:=B11) (zbY (zcG (c:=⟨cl,(at_ + 1),false,gen,l,(gl ++ [⟨re,rn⟩])⟩) HC.o HB.o HRO.o)) (fun k _ h=>HK.o.2.2.2 k (zc0.o k (zf1.o k h)))⟩

end Go.Proofs.YtikbhmnjlmbeeaeGreat

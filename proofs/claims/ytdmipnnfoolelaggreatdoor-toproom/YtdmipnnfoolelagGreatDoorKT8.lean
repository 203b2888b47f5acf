/- zbb of the proof, merged: Y5. -/
import Derived.Test.YtdmipnnfoolelagGreatDoorKTA
import Derived.Test.YtdmipnnfoolelagGreatDoorKTT
set_option maxHeartbeats 16000000
set_option maxRecDepth 100000

namespace Go.Proofs.YtdmipnnfoolelagGreatDoor
open Go.RowKit Go.Mk

def zsS:List UInt8:=[115,119,97,112,32,49,32,50,10]
def zdD (j:Nat):List UInt8:=(List.replicate j zsS).flatten
theorem zoh (j:Nat):zdD (j+1)=zdD j++zsS:=by
 unfold zdD
 rw [List.replicate_succ',List.flatten_append]
 simp
theorem zgh (j:Nat):(zdD j).length=j * 9:=by
 unfold zdD
 rw [List.length_flatten,List.map_replicate,List.sum_replicate_nat]
 rfl
theorem zjD (e:Nat):printCl (List.replicate e zd3)=zdD e:=by
 have h1:callText zd3++[10]=zsS:=by decide +kernel
 induction e with
 | zero=>rfl
 | succ e ih =>
  rw [List.replicate_succ]
  show (callText zd3++[10])++printCl (List.replicate e zd3)=_
  rw [h1,ih]
  unfold zdD
  rw [List.replicate_succ,List.flatten_cons]
def ze1 (a b:Int):List Cl:=[⟨1,1,0,a⟩,⟨1,2,0,b⟩]
theorem zqv (a b:Int) (e:Nat):printCl (⟨1,1,0,a⟩::⟨1,2,0,b⟩::List.replicate e zd3)=printCl (ze1 a b)++zdD e:=by
 rw [<- zjD]
 unfold ze1 printCl
 simp
theorem zg7 {a b:Int} (ha:-1000<=a/\a<=1000) (hb:-1000<=b/\b<=1000):∀ c ∈ ze1 a b,wrongCl c=0:=fun c hc=>by
 unfold ze1 at hc
 rcases List.mem_cons.1 hc with rfl | hc
 ·unfold wrongCl
  simp
  omega
 ·rw [List.mem_singleton.1 hc]
  unfold wrongCl
  simp
  omega
theorem zh1 (e:Nat):∀ c ∈ List.replicate e zd3,wrongCl c=0:=fun c hc=>by rw [List.eq_of_mem_replicate hc]; decide
theorem zk9 {a b:Int} (ha:-1000<=a/\a<=1000) (hb:-1000<=b/\b<=1000) (e:Nat):∀ c ∈ (⟨1,1,0,a⟩:Cl)::⟨1,2,0,b⟩::List.replicate e zd3,wrongCl c=0:=fun c hc=>by
 rcases List.mem_cons.1 hc with rfl | hc
 ·exact zg7 ha hb _ (by simp [ze1])
 ·rcases List.mem_cons.1 hc with rfl | hc
  ·exact zg7 ha hb _ (by simp [ze1])
  ·exact zh1 e c hc
theorem zoJ {a b:Int} (ha:-1000<=a/\a<=1000) (hb:-1000<=b/\b<=1000) {e:Nat} (he:e<=6):zaG (ze2 a b e):=by
 refine ⟨by unfold ze2; simp,fun c hc=>?_⟩
 unfold ze2 at hc
 rcases List.mem_cons.1 hc with rfl | hc
 ·exact ⟨by simp; omega,zk9 ha hb e⟩
 ·rw [List.mem_singleton.1 hc]
  exact ⟨by simp; omega,zh1 e⟩
def zpf (a b:Int) (e:Nat):List (List UInt8):=[printCl (ze1 a b)++zdD e,zdD e]
theorem zoV {a b:Int} (ha:-1000<=a/\a<=1000) (hb:-1000<=b/\b<=1000) {e:Nat} (he:e<=6) (hp:(printCl (ze1 a b)).length<=122):zbb (zpf a b e) (ze2 a b e):=by
 have h1:=zdz (zqv a b e) (zk9 ha hb e) (by simp; omega)
 have h2:zb2 (zdD e)=(List.replicate e zd3,0):=zdz (zjD e) (zh1 e) (by simp; omega)
 refine ⟨rfl,fun i s hs=>?_⟩
 match i,hs with
 | 0,hs =>
  cases hs
  exact ⟨by rw [List.length_append,zgh]; omega,h1⟩
 | 1,hs =>
  cases hs
  exact ⟨by rw [zgh]; omega,h2⟩
 | i+2,hs=>simp [zpf] at hs

theorem zou {TV:World->Prop} (hText:TextOk TV) (hPlay:zfL) (hSettle:zdS) (hNow:zpu) (hIdle:zfN) (v3:Value) (a b n:Int) (steps:List (Int×Int)) (w:World) (hTV:TV w) (h1:zar w v3 steps) :
  zaw Tryz.prog 4 #[I a,I b,I n,v3] w fun r _=>r=.bool true:=by
 refine zcP ?_;have HSTP:=zhd h1;obtain ⟨ta,tc,rfl⟩:=zao h1;clear h1;have HTX:=zhd hText;have HPL:=zhd hPlay;have HSE:=zhd hSettle;have HNO:=zhd hNow;have HIO:=zhd hIdle;have HTV:=zhd hTV;clear hText hPlay hSettle hNow hIdle hTV;have EW:=zhd (Ext.refl w);obtain ⟨B,HB0⟩:∃ B:Nat->Prop,Hid (∀ k,B k↔True):=⟨_,fun _=>Iff.rfl⟩;go_enter Tryz.func4,Tryz.ntmps4
 go_wp2_with fail
 refine (zd9 HTX.o HPL.o HSE.o HIO.o w (HTX.o.ext _ _ HTV.o EW.o)).to fun r wl el hr=>?_;subst hr;replace EW:=zhd (EW.o.trans el);clear el;by_cases hg:a < -1000
 case pos =>
  have hb:=decide_eq_true hg;go_wp2
  go_ret
  exact ⟨rfl,EW.o⟩
 have hb1:decide (a < -1000)=false:=decide_eq_false hg;clear hg;by_cases hg:1000 < a
 case pos =>
  have hb:=decide_eq_true hg;go_wp2
  go_ret
  exact ⟨rfl,EW.o⟩
 have hb2:decide (1000 < a)=false:=decide_eq_false hg;clear hg;by_cases hg:b < -1000
 case pos =>
  have hb:=decide_eq_true hg;go_wp2
  go_ret
  exact ⟨rfl,EW.o⟩
 have hb3:decide (b < -1000)=false:=decide_eq_false hg;clear hg;by_cases hg:1000 < b
 case pos =>
  have hb:=decide_eq_true hg;go_wp2
  go_ret
  exact ⟨rfl,EW.o⟩
 have hb4:decide (1000 < b)=false:=decide_eq_false hg;clear hg;by_cases hg:n < 0
 case pos =>
  have hb:=decide_eq_true hg;go_wp2
  go_ret
  exact ⟨rfl,EW.o⟩
 have hb5:decide (n < 0)=false:=decide_eq_false hg;clear hg;by_cases hg:6 < n
 case pos =>
  have hb:=decide_eq_true hg;go_wp2
  go_ret
  exact ⟨rfl,EW.o⟩
 have hb6:decide (6 < n)=false:=decide_eq_false hg;clear hg;by_cases hg:400 < steps.length
 case pos =>
  have hb:decide ((400:Int) < (steps.length:Int))=true:=decide_eq_true (by omega);go_wp2
  go_ret
  exact ⟨rfl,EW.o⟩
 have hb7:decide ((400:Int) < (steps.length:Int))=false:=decide_eq_false (by omega);have h400:Hid (steps.length<=400):=by unfold Hid; omega
 clear hg;have c1:=of_decide_eq_false hb1;have c2:=of_decide_eq_false hb2;have c3:=of_decide_eq_false hb3;have c4:=of_decide_eq_false hb4;have c5:=of_decide_eq_false hb5;have c6:=of_decide_eq_false hb6;obtain ⟨E,rfl⟩:∃ i:Nat,n=(i:Int):=⟨n.toNat,by omega⟩;have HA:Hid (-1000<=a/\a<=1000):=⟨by omega,by omega⟩;have HB:Hid (-1000<=b/\b<=1000):=⟨by omega,by omega⟩;have HE:Hid (E<=6):=by unfold Hid; omega
 have HPR:=zhd (zg7 HA.o HB.o);have HP2:Hid ((printCl (ze1 a b)).length<=122):=HTX.o.len _ HPR.o;clear c1 c2 c3 c4 c5 c6;go_wp2_with (with_reducible refine zT ?_)
 refine zbm rfl 33 #[(0,.const (.int .i64 1)),(1,.const (.int .i64 1)),(3,.tmp 45)] rfl #[I 1,I 1,I 0,I a] (by kernel_rfl) (fun v46 H_v46=>?_);obtain rfl:=H_v46.o;clear H_v46 hb1 hb2 hb3 hb4 hb5 hb6 hb7;go_wp2_with (with_reducible refine zT ?_)
 refine zac rfl 33 #[I 0,I 0,I 0,I 0] (by kernel_rfl) (fun b9 w1_ M1=>?_);obtain ⟨B1,HB1⟩:=zEx B b9;have zoA:=zOn M1 EW;have zbd:=zmb M1;go_wp2_with (with_reducible refine zT ?_)
 refine zaa rfl 33 (.tmp 9) (.tmp 46) rfl b9 rfl [I 1,I 1,I 0,I a] (rfl) zbd rfl zum rfl (fun w2_ M2=>?_);replace zbd:=zwb M2;go_wp2_with (with_reducible refine zT ?_)
 refine zbm rfl 33 #[(0,.const (.int .i64 1)),(1,.const (.int .i64 2)),(3,.tmp 47)] rfl #[I 1,I 2,I 0,I b] (by kernel_rfl) (fun v48 H_v48=>?_);obtain rfl:=H_v48.o;clear H_v48;go_wp2_with (with_reducible refine zT ?_)
 refine zac rfl 33 #[I 0,I 0,I 0,I 0] (by kernel_rfl) (fun b10 w3_ M3=>?_);have zr2:=zld zbd M3;obtain ⟨B11,HB11⟩:=zEx B1 b10;replace EW:=zwe M2 (zet EW M1) zoA;have zu8:=zOn M3 EW;have zq9:=zmb M3;go_wp2_with (with_reducible refine zT ?_)
 refine zaa rfl 33 (.tmp 10) (.tmp 48) rfl b10 rfl [I 1,I 2,I 0,I b] (rfl) zq9 rfl zum rfl (fun w4_ M4=>?_);replace zq9:=zwb M4;replace zbd:=zwl M4 (zmo M3 zbd) zr2;have x0:=zae (i:=0) zbd.o rfl;have y0:=zae (i:=0) zq9.o rfl;have x1:=zae (i:=1) zbd.o rfl;have y1:=zae (i:=1) zq9.o rfl;have x2:=zae (i:=2) zbd.o rfl;have y2:=zae (i:=2) zq9.o rfl;have x3:=zae (i:=3) zbd.o rfl;have y3:=zae (i:=3) zq9.o rfl;go_wp2_with (with_reducible refine zT ?_)
 unfold Hid;clear x0 x1 x2 x3 y0 y1 y2 y3;refine zbe rfl 33 2 #[I 1,I 1,I 0,I a,I 1,I 2,I 0,I b] (by kernel_rfl) (fun b51 w5_ M5=>?_);have zu1:=zmb M5;have HCL:Hid (zaj 4 zbX w5_ (.slice (some ⟨b51,0,none⟩) 2 2) (ze1 a b)):=(zcc (f:=fun (x:Cl)=>[I x.kind,I x.name,I x.other,I x.n]) (fun _=>rfl)).2 (Row.of_owns (zbB (base:=0) M5.o (Nat.zero_le _) rfl (by decide)));clear zbd zq9 zu1;go_wp2_with fail
 replace EW:=zet (zwe M4 (zet EW M3) zu8) M5;refine (HTX.o.print _ (ze1 a b) w5_ (HTX.o.ext _ _ HTV.o EW.o) HCL.o HPR.o (by decide:2<=1000)).to fun r wp ep hr=>?_;replace hr:r=SS (printCl (ze1 a b)):=hr;subst hr;obtain ⟨PP,hpp⟩:∃ x,printCl (ze1 a b)=x:=⟨_,rfl⟩;have HPP:=zhd hpp;rw [hpp] at HP2 ⊢;clear hpp HCL;replace EW:=zhd (EW.o.trans ep);clear ep;go_wp2_with fail
 have EW0:=EW;go_loopw [12,54] (fun s i wr=>∃ j:Nat,j<=E/\i=I j/\s=SS (zdD j)/\Ext wp wr) (fun _ i _=>E - (intOf i).toNat)
 case atStart=>exact ⟨0,Nat.zero_le _,rfl,rfl,Ext.refl _⟩
 case round =>
  obtain ⟨j,hj,rfl,rfl,hex⟩:=hrel;by_cases hlt:j < E
  case pos =>
   have hli:(j:Int) < (E:Int):=by omega
   have hkb:j < 2000:=by have q:=HE.o; omega
   have hsz:¬ (9223372036854775807 < (zdD j).length+9):=by rw [zgh]; omega
   go_wp2
   case roundEnd =>
    refine ⟨⟨j+1,by omega,by go_num,(zlK (zdD j) zsS).trans (by rw [zoh]),hex⟩,?_⟩;simp [intOf];omega
  obtain ⟨E2,hE2⟩:∃ x,E=x:=⟨_,rfl⟩;obtain rfl:j=E2:=by omega
  subst hE2;clear hj hlt EW0;replace EW:=zhd (EW.o.trans hex);clear hex;have hsz:¬ (9223372036854775807 < PP.length+(zdD E).length):=by rw [zgh]; have q:=HE.o; have q2:=HP2.o; omega
  go_wp2_with (with_reducible refine zT ?_)
  unfold Hid;clear hsz;refine zbe rfl 9 2 #[.string (⟨PP.toArray⟩++⟨(zdD E).toArray⟩),SS (zdD E)] (by kernel_rfl) (fun b64 w6_ M6=>?_);have zva:=zmb M6
  have HSS:Hid (zlu w6_ (.slice (some ⟨b64,0,none⟩) 2 2) (zpf a b E)):=by
   have q:w6_.ownsRow 0 9 1 (.slice (some ⟨b64,0,none⟩) 2 2) 2 [.string (⟨PP.toArray⟩++⟨(zdD E).toArray⟩),SS (zdD E)]:=zbB M6.o (Nat.zero_le _) rfl (by decide);rw [zlK,<- HPP.o] at q;exact Row.of_owns q
  clear zva;go_wp2_with fail
  obtain ⟨S,hS⟩:∃ x,zlA (ze2 a b E) steps=x:=⟨_,rfl⟩;have hrt:=zoJ HA.o HB.o HE.o;have hfx:=zgJ hrt steps;rw [hS] at hfx;have FX:=zhd hfx;have HFM:=zhd hS;have HRT:=zhd hrt;clear hfx hS hrt;replace EW:=zet EW M6;refine ((zdj HTX.o HPL.o HSE.o HIO.o _ _ (zpf a b E) (ze2 a b E) steps w6_ (HTX.o.ext _ _ HTV.o EW.o) HSS.o (HSTP.o.ext EW.o) (zoV HA.o HB.o HE.o (by rw [HPP.o]; exact HP2.o)) HRT.o h400.o).mono fun r w' _ h=>(by rw [HFM.o] at h; exact h)).to fun r ws es9 hr=>?_;obtain ⟨cs,rfl,hcs⟩:=hr;obtain ⟨c9,u9,a9,p9,box9,plan9,cl9,rfl,hM⟩:=zcu (Rd.widen (B:=fun k=>k < ws.heap.size) (Rd.of (φ:=fun w=>zdi w cs S) (fun w w' hk h=>zhN w w' _ _ hk h) hcs) (fun _ _ h=>h));obtain ⟨ca9,cc9,ua9,uc9,aa9,ac9,pa9,pc9,xa9,xc9,la9,lc9,ka9,kc9,rfl,rfl,rfl,rfl,rfl,rfl,rfl⟩:=hM.slices;obtain ⟨Z9,HZ9⟩:∃ X:Nat->Prop,Hid (∀ k,X k↔k < ws.heap.size):=⟨_,fun _=>Iff.rfl⟩;have X9:=zhd (hM.widen (B:=Z9) fun k _ h=>(HZ9.o k).2 h);clear hcs hM;replace EW:=zhd (EW.o.trans es9);clear es9;clear HSS HFM HRT;go_wp2_with (with_reducible refine zT ?_)
  refine zac rfl 43 zM (by kernel_rfl) (fun b13 w7_ M7=>?_);obtain ⟨Z91,HZ91⟩:=zEx Z9 b13;have znD:=zNn HZ91;have zr0:=zOn M7 EW;have zdN:=zmb M7;go_wp2_with (with_reducible refine zT ?_)
  refine zaa rfl 43 (.tmp 13) (.tmp 67) rfl b13 rfl [.slice ca9 S.store.cells.length cc9,.slice ua9 S.store.undo.length uc9,.slice aa9 S.store.answers.length ac9,.slice pa9 S.store.past.length pc9,I S.server.gen,.slice xa9 S.server.box.length xc9,.bool S.server.busy,I S.server.now.client,I S.server.now.token,I S.server.now.call.kind,I S.server.now.call.name,I S.server.now.call.other,I S.server.now.call.n,.slice la9 S.server.plan.length lc9,I S.server.says.err,I S.server.says.n,.bool S.up,I S.pause,I S.falls,.slice ka9 S.clients.length kc9] (rfl) zdN rfl zaT rfl (fun w8_ M8=>?_);replace zdN:=zwb M8;go_wp2_with (with_reducible refine zT ?_)
  refine zah rfl 43 (.tmp 13) rfl b13 rfl zdN za2 zaT (fun v71 H_v71=>?_);go_wp2_with fail
  rw [H_v71.o];clear H_v71;replace X9:=zHw M8 (zhd ((zMD HZ91 M7 X9).o.ext M7.o.ext)) znD;refine (HNO.o S _ _ _ _ _ _ _ w8_ Z91 X9.o FX.o.look).to fun r wn en hr=>?_;rw [FX.o.names] at hr;replace EW:=zhd ((zwe M8 (zet EW M7) zr0).o.trans en);replace zdN:=zbx zdN en;replace X9:=zhd (X9.o.ext en);clear en;rcases zsB FX.o.donep with hnm | hnm
  ·rw [hnm] at hr;obtain ⟨na,nc,rfl⟩:=zao hr;obtain ⟨_,_,e1,_,_,hat⟩:=hr.form;simp only [Value.slice.injEq,true_and] at e1;obtain ⟨rfl,rfl⟩:=e1;obtain ⟨nb,no,rfl,-,d1⟩:=hat 0 (by simp);obtain ⟨_,_,e1,-,f1⟩:=hat 1 (by simp);cases e1
   replace d1:wn.cell? ⟨nb,no+0 * 2+1,none⟩=some (I a):=d1;replace f1:wn.cell? ⟨nb,no+1 * 2+1,none⟩=some (I b):=f1;simp only [Nat.zero_mul,Nat.add_zero,Nat.one_mul] at d1 f1;rw [show no+2+1=no+3 from rfl] at f1;have hA:=HA.o;have hB:=HB.o;have hw1:IntKind.i64.wrap (a+b)=a+b:=by rw [IntKind.wrap_i64]; omega
   have hw2:IntKind.i64.wrap (b+a)=b+a:=by rw [IntKind.wrap_i64]; omega
   have hab:b+a=a+b:=by omega
   clear hat hnm hr;go_wp2_with fail
   refine zbU [none,none,none,none,none,none,none,none,none,none,none,none,none,none,none,none,none,none,none,none,none,none,none,none,none,none,none,none,none,none,none,none,none,none,none] (by kernel_rfl) (by kernel_rfl) ?_ ?_
   ·exact ⟨trivial,trivial,trivial,trivial,trivial,trivial,trivial,trivial,trivial,trivial,trivial,trivial,trivial,trivial,trivial,trivial,trivial,trivial,trivial,trivial,trivial,trivial,trivial,trivial,trivial,trivial,trivial,trivial,trivial,trivial,trivial,trivial,trivial,trivial,trivial,trivial⟩
   iterate 7 (refine zat (fun K hK=>?_); go_simp; first | refine hK _ ?_ | refine ⟨(fun h=>by cases h),hK _ ?_⟩; clear hK K)
   refine zaK (I a) rfl (fun w' hw'=>by have q0:=hw'.cell d1; go_simp) ?_;refine zan fun K h=>?_; go_simp; refine h _ ?_; clear h K;iterate 3 (refine zat (fun K hK=>?_); go_simp; first | refine hK _ ?_ | refine ⟨(fun h=>by cases h),hK _ ?_⟩; clear hK K)
   refine zaK (I b) rfl (fun w' hw'=>by have q0:=hw'.cell f1; go_simp) ?_;refine zan fun K h=>?_; go_simp; refine h _ ?_; clear h K;iterate 10 (refine zat (fun K hK=>?_); go_simp; first | refine hK _ ?_ | refine ⟨(fun h=>by cases h),hK _ ?_⟩; clear hK K)
   refine zaK (I a) rfl (fun w' hw'=>by have q0:=hw'.cell d1; go_simp) ?_;refine zan fun K h=>?_; go_simp; refine h _ ?_; clear h K;iterate 6 (refine zat (fun K hK=>?_); go_simp; first | refine hK _ ?_ | refine ⟨(fun h=>by cases h),hK _ ?_⟩; clear hK K)
   iterate 6 (refine zat (fun K hK=>?_); go_simp; first | refine hK _ ?_ | refine ⟨(fun h=>by cases h),hK _ ?_⟩; clear hK K)
   refine za5 ?_;intro w6 e6 _;clear d1 f1;replace zdN:=zbx zdN e6;replace X9:=zhd (X9.o.ext e6);replace EW:=zhd (EW.o.trans e6);clear e6;go_wp2
   go_ret
   exact ⟨rfl,EW.o⟩
  ·rw [hnm] at hr;obtain ⟨na,nc,rfl⟩:=zao hr;obtain ⟨_,_,e1,_,_,hat⟩:=hr.form;simp only [Value.slice.injEq,true_and] at e1;obtain ⟨rfl,rfl⟩:=e1;obtain ⟨nb,no,rfl,-,d1⟩:=hat 0 (by simp);obtain ⟨_,_,e1,-,f1⟩:=hat 1 (by simp);cases e1
   replace d1:wn.cell? ⟨nb,no+0 * 2+1,none⟩=some (I b):=d1;replace f1:wn.cell? ⟨nb,no+1 * 2+1,none⟩=some (I a):=f1;simp only [Nat.zero_mul,Nat.add_zero,Nat.one_mul] at d1 f1;rw [show no+2+1=no+3 from rfl] at f1;have hA:=HA.o;have hB:=HB.o;have hw1:IntKind.i64.wrap (a+b)=a+b:=by rw [IntKind.wrap_i64]; omega
   have hw2:IntKind.i64.wrap (b+a)=b+a:=by rw [IntKind.wrap_i64]; omega
   have hab:b+a=a+b:=by omega
   clear hat hnm hr;by_cases hba:b=a
   case pos =>
    subst hba;go_wp2_with fail
    refine zbU [none,none,none,none,none,none,none,none,none,none,none,none,none,none,none,none,none,none,none,none,none,none,none,none,none,none,none,none,none,none,none,none,none,none,none] (by kernel_rfl) (by kernel_rfl) ?_ ?_
    ·exact ⟨trivial,trivial,trivial,trivial,trivial,trivial,trivial,trivial,trivial,trivial,trivial,trivial,trivial,trivial,trivial,trivial,trivial,trivial,trivial,trivial,trivial,trivial,trivial,trivial,trivial,trivial,trivial,trivial,trivial,trivial,trivial,trivial,trivial,trivial,trivial,trivial⟩
    iterate 7 (refine zat (fun K hK=>?_); go_simp; first | refine hK _ ?_ | refine ⟨(fun h=>by cases h),hK _ ?_⟩; clear hK K)
    refine zaK (I b) rfl (fun w' hw'=>by have q0:=hw'.cell d1; go_simp) ?_;refine zan fun K h=>?_; go_simp; refine h _ ?_; clear h K;iterate 3 (refine zat (fun K hK=>?_); go_simp; first | refine hK _ ?_ | refine ⟨(fun h=>by cases h),hK _ ?_⟩; clear hK K)
    refine zaK (I b) rfl (fun w' hw'=>by have q0:=hw'.cell f1; go_simp) ?_;refine zan fun K h=>?_; go_simp; refine h _ ?_; clear h K;iterate 10 (refine zat (fun K hK=>?_); go_simp; first | refine hK _ ?_ | refine ⟨(fun h=>by cases h),hK _ ?_⟩; clear hK K)
    refine zaK (I b) rfl (fun w' hw'=>by have q0:=hw'.cell d1; go_simp) ?_;refine zan fun K h=>?_; go_simp; refine h _ ?_; clear h K;iterate 6 (refine zat (fun K hK=>?_); go_simp; first | refine hK _ ?_ | refine ⟨(fun h=>by cases h),hK _ ?_⟩; clear hK K)
    iterate 6 (refine zat (fun K hK=>?_); go_simp; first | refine hK _ ?_ | refine ⟨(fun h=>by cases h),hK _ ?_⟩; clear hK K)
    refine za5 ?_;intro w6 e6 _;clear d1 f1;replace zdN:=zbx zdN e6;replace X9:=zhd (X9.o.ext e6);replace EW:=zhd (EW.o.trans e6);clear e6;go_wp2
    go_ret
    exact ⟨rfl,EW.o⟩
   have hbb:(b == a)=false:=by simpa using hba
   go_wp2_with fail
   refine zbU [none,none,none,none,none,none,none,none,none,none,none,none,none,none,none,none,none,none,none,none,none,none,none,none,none,none,none,none,none,none,none,none,none,none,none] (by kernel_rfl) (by kernel_rfl) ?_ ?_
   ·exact ⟨trivial,trivial,trivial,trivial,trivial,trivial,trivial,trivial,trivial,trivial,trivial,trivial,trivial,trivial,trivial,trivial,trivial,trivial,trivial,trivial,trivial,trivial,trivial,trivial,trivial,trivial,trivial,trivial,trivial,trivial,trivial,trivial,trivial,trivial,trivial,trivial⟩
   iterate 7 (refine zat (fun K hK=>?_); go_simp; first | refine hK _ ?_ | refine ⟨(fun h=>by cases h),hK _ ?_⟩; clear hK K)
   refine zaK (I b) rfl (fun w' hw'=>by have q0:=hw'.cell d1; go_simp) ?_;refine zan fun K h=>?_; go_simp; refine h _ ?_; clear h K;iterate 3 (refine zat (fun K hK=>?_); go_simp; first | refine hK _ ?_ | refine ⟨(fun h=>by cases h),hK _ ?_⟩; clear hK K)
   refine zaK (I a) rfl (fun w' hw'=>by have q0:=hw'.cell f1; go_simp) ?_;refine zan fun K h=>?_; go_simp; refine h _ ?_; clear h K;iterate 10 (refine zat (fun K hK=>?_); go_simp; first | refine hK _ ?_ | refine ⟨(fun h=>by cases h),hK _ ?_⟩; clear hK K)
   refine zaK (I b) rfl (fun w' hw'=>by have q0:=hw'.cell d1; go_simp) ?_;refine zan fun K h=>?_; go_simp; refine h _ ?_; clear h K;iterate 6 (refine zat (fun K hK=>?_); go_simp; first | refine hK _ ?_ | refine ⟨(fun h=>by cases h),hK _ ?_⟩; clear hK K)
   refine zaK (I b) rfl (fun w' hw'=>by have q0:=hw'.cell d1; go_simp) ?_;refine zan fun K h=>?_; go_simp; refine h _ ?_; clear h K;iterate 5 (refine zat (fun K hK=>?_); go_simp; first | refine hK _ ?_ | refine ⟨(fun h=>by cases h),hK _ ?_⟩; clear hK K)
   refine za5 ?_;intro w6 e6 _;clear d1 f1;replace zdN:=zbx zdN e6;replace X9:=zhd (X9.o.ext e6);replace EW:=zhd (EW.o.trans e6);clear e6;go_wp2
   go_ret
   exact ⟨rfl,EW.o⟩

end Go.Proofs.YtdmipnnfoolelagGreatDoor

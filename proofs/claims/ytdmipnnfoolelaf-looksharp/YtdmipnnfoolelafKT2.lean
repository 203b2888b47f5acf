/- Texts of the proof, merged: QC QA. -/
import Derived.Test.YtdmipnnfoolelafKTA
import Derived.Test.YtdmipnnfoolelafKTZ
import Derived.Test.YtdmipnnfoolelafKT1
import Derived.Test.YtdmipnnfoolelafKTF
import Derived.Test.YtdmipnnfoolelafKTI
set_option maxHeartbeats 8000000
set_option maxRecDepth 100000

namespace Go.Proofs.Ytdmipnnfoolelaf
open Go.RowKit Go.Mk

structure Near (w1:World) (p q:Option Nat) (w':World):Prop where
 size:w1.heap.size<=w'.heap.size
 keep:∀ k,k < w1.heap.size->some k≠p->some k≠q->w'.heap[k]?=w1.heap[k]?
theorem Near.refl (w:World) (p q:Option Nat):Near w p q w:=⟨Nat.le_refl _,fun _ _ _ _=>rfl⟩
theorem Near.ext {w1 w' w2:World} {p q:Option Nat} (h:Near w1 p q w') (e:Ext w' w2):Near w1 p q w2:=⟨Nat.le_trans h.size e.size,fun k hk hp hq=>(e.block k (Nat.lt_of_lt_of_le hk h.size)).trans (h.keep k hk hp hq)⟩
theorem Near.left {w1 w' w2:World} {p q:Option Nat} (h:Near w1 p q w') (e:w'.grownBy w2 p):Near w1 p q w2:=⟨Nat.le_trans h.size e.size,fun k hk hp hq=>(e.block k (Nat.lt_of_lt_of_le hk h.size) hp).trans (h.keep k hk hp hq)⟩
theorem Near.right {w1 w' w2:World} {p q:Option Nat} (h:Near w1 p q w') (e:w'.grownBy w2 q):Near w1 p q w2:=⟨Nat.le_trans h.size e.size,fun k hk hp hq=>(e.block k (Nat.lt_of_lt_of_le hk h.size) hq).trans (h.keep k hk hp hq)⟩
theorem Near.cell {w1 w':World} {p q:Option Nat} (h:Near w1 p q w') {b o:Nat} {v:Value} (hc:w1.cell? ⟨b,o,none⟩=some v) (hp:some b≠p) (hq:some b≠q):w'.cell? ⟨b,o,none⟩=some v:=by
 by_cases hb:b < w1.heap.size
 ·rw [World.cell?_of_block (h.keep b hb hp hq)]; exact hc
 ·simp [World.cell?,Array.getElem?_eq_none (Nat.le_of_not_lt hb)] at hc
theorem zk2 {w:World} {base e size n:Nat} {v:Value} {xs:List Value} (h:w.ownsRow base e size v n xs) {b:Nat} (hb:b < base):some b≠v.ownBlock:=fun e=>by
 have:=(h.lt b e.symm).1
 omega

theorem zmg {w:World} {b o:Nat} {v:Value} (h:w.cell? ⟨b,o,none⟩=some v):b < w.heap.size:=by
 by_cases hb:b < w.heap.size
 ·exact hb
 ·simp [World.cell?,Array.getElem?_eq_none (Nat.le_of_not_lt hb)] at h

section
variable {P:Program} {ops:Array Oper} {Q:Exit->Act->World->Prop} {a:Act} {w:World} {o:Oper}
theorem zen {K:Act->World->Prop} {i:Nat} (hi:ops[i]?=some o) (hw:Region.wanted o (yielded ops a.tmps)=true) (e:TypeId) (n:Nat) (cells:Array Value) (hrun:(execOp a.eval o).run P w=.ok (.value (.slice (some ⟨w.heap.size,0,none⟩) n n)) (w.alloc (.cells cells e)))
  (h:∀ b w',Hid (Made w w' b (.cells cells e))->K (a.put o.dst (.slice (some ⟨b,0,none⟩) n n)) w'):wpOp P ops Q i K a w:=by
 refine zdQ hi hw ?_
 unfold Oper.wp
 rw [hrun]
 exact h _ _ (zhE w _)
theorem zcx {K:Act->World->Prop} {k:Nat} (hk:ops[k]?=some o) (hw:Region.wanted o (yielded ops a.tmps)=true) (s x:Operand) (t:TypeId)
  (ho:o.op=.call { callee:=.builtin .append,args:=#[s,x],argTypes:=#[t,t] })
  (base:Nat) (e:TypeId) (i:TypeInfo) (z:Value) (size bytes:Nat) (ht:P.underlying t=some (.slice e)) (hi:P.info? e=some i) (hz:i.zero=some z)
  (hsize:i.size=size) (hby:i.bytes=bytes) (hzs:z.cells.size=size) (hsz:0 < size)
  (v:Value) (n:Nat) (xs:List Value) (hs:a.eval s=v) (hown:w.ownsRow base e size v n xs) (u:Value) (hx:a.eval x=u) (m:Nat) (news:List Value) (hu:Row w size u m news) (h1:∀ u ∈ news,u.oneCell'=true)
  (hbytes:(n+m) * bytes<=140737488355328) (hpos:0 < bytes) (hbase:base<=w.heap.size)
  (h:∀ v' w',w'.ownsRow base e size v' (n+m) (xs++news)->w.grownBy w' v.ownBlock->K (a.put o.dst v') w'):wpOp P ops Q k K a w:=by
 refine zdQ hk hw ?_
 obtain ⟨v',w',hrun,h2,h3⟩:=zbt (P:=P) w base t o.type e i z size bytes ht hi hz hsize hby hzs hsz v n xs hown u m news hu h1 hbytes hpos hbase
 unfold Oper.wp
 simp [execOp,ho,resolve,invoke,builtin,hs,hx,hrun,Result.andThen]
 exact h v' w' h2 h3
end

theorem zm6 (v t:Value) (pp:List Rq) (q:List (Int×Int)) (n:Int) (w:World) (hv:zaq 6 zes w v pp) (ht:zan w t q) (hlen:q.length=pp.length) (hr:pp.length<=1000000) :
  zba Try.prog 22 #[v,t,I n] w fun r w'=>∃ x y,r=.tuple #[x,y]/\zaq 6 zes w' x (zdx pp n)/\zaq 2 zdA w' y (zc3 (pp.zip q) n):=by
 unfold zba;obtain ⟨pa,pc,rfl,p1,p2,p3⟩:=(zbI.1 hv).form;obtain ⟨ya,yc,rfl,y1,y2,y3⟩:=ht.form;unfold maxLen at p2 y2;obtain ⟨i0,hi,hz0,hz1,hz2⟩:=info_parts Try.infoRequest;obtain ⟨j0,hj,hy0,hy1,hy2⟩:=info_parts Try.infoReply;have P3:=zhd p3;have Y3:=zhd y3;have HLEN:=zhd hlen;have HR:=zhd hr;clear p3 y3 hlen hr hv ht;go_enter Try.func22,Try.ntmps22
 go_wp2_with fail
 go_loopw [8,9,14] (fun lv rv i wr=>∃ k:Nat,k<=pp.length/\i=I k/\wr.ownsRow w.heap.size 35 6 lv (zdx (pp.take k) n).length (zaN (zdx (pp.take k) n))/\wr.ownsRow w.heap.size 38 2 rv (zc3 ((pp.zip q).take k) n).length (zbh (zc3 ((pp.zip q).take k) n))/\Ext w wr) (fun _ _ i _=>pp.length - (intOf i).toNat)
 case atStart=>exact ⟨0,Nat.zero_le _,rfl,World.ownsRow_nil _ _ _ _,World.ownsRow_nil _ _ _ _,Ext.refl w⟩
 case round =>
  obtain ⟨k,hk,rfl,hl,hr,he⟩:=hrel;by_cases hlt:k < pp.length
  ·have hgk:pp[k]?=some pp[k]:=List.getElem?_eq_getElem hlt;obtain ⟨b,off,rfl,d0,d1,d2,d3,d4,d5⟩:=P3.o k _ hgk;replace d0:=he.cell d0;replace d1:=he.cell d1;replace d2:=he.cell d2;replace d3:=he.cell d3;replace d4:=he.cell d4;replace d5:=he.cell d5;have hkq:k < q.length:=by have z:=HLEN.o; omega
   have hgq:q[k]?=some q[k]:=List.getElem?_eq_getElem hkq;have hgz:(pp.zip q)[k]?=some (pp[k],q[k]):=by rw [List.getElem?_zip_eq_some]; exact ⟨hgk,hgq⟩
   have HM:=zhd (zg0 n hgk);have HT:=zhd (zht n hgz);obtain ⟨yb,yo,rfl,f0,f1⟩:=Y3.o k hkq;rw [show q.getD k (0,0)=q[k] by rw [List.getD_eq_getElem?_getD,hgq]; rfl] at f0 f1;have hlm:=zfm (pp.take k) n;have hlt2:=zif ((pp.zip q).take k) n;rw [List.length_take] at hlm hlt2;generalize pp[k]=rq at *;generalize q[k]=yq at *;obtain ⟨rc,tk,kd,nm,ot,nn⟩:=rq;obtain ⟨ye,yn⟩:=yq;simp only [] at d0 d1 d2 d3 d4 d5 f0 f1 HM HT;clear hgk hgq hgz;have hB:pp.length<=1000000:=HR.o;generalize hML:zdx (pp.take k) n=ML at *;generalize hTL:zc3 ((pp.zip q).take k) n=TL at *;clear hML hTL;have hyb:yb < w.heap.size:=zmg f0;replace f0:=he.cell f0;replace f1:=he.cell f1;have F0:=zhd f0;have F1:=zhd f1;clear f0 f1;by_cases hc:rc=n
   ·replace hc:=hc.symm;subst hc;have RB:Hid (ML.length<=1000000/\TL.length<=1000000):=⟨by omega,by rw [List.length_zip] at hlt2; omega⟩;clear hlm hlt2;go_wp2_with fail
    clear d0 d1 d2 d3 d4 d5;have M1:=zhd (zhE wr (.cells #[I n,I tk,I kd,I nm,I ot,I nn] 35));obtain ⟨bb,HBB⟩:∃ bb,Hid (wr.heap.size=bb):=⟨_,rfl⟩;obtain ⟨w1,HW1⟩:∃ x,Hid (wr.alloc (.cells #[I n,I tk,I kd,I nm,I ot,I nn] 35)=x):=⟨_,rfl⟩;rw [show wr.alloc (.cells #[I n,I tk,I kd,I nm,I ot,I nn] 35)=w1 from HW1.o] at M1;rw [show wr.heap.size=bb from HBB.o] at M1;simp only [show wr.alloc (.cells #[I n,I tk,I kd,I nm,I ot,I nn] 35)=w1 from HW1.o,show wr.heap.size=bb from HBB.o];have hbl:=M1.o.block;have hs8:some bb≠u8.ownBlock:=fun e=>by have z:=(hl.lt bb e.symm).2; rw [HBB.o] at z; exact Nat.lt_irrefl _ z
    have hs9:some bb≠u9.ownBlock:=fun e=>by have z:=(hr.lt bb e.symm).2; rw [HBB.o] at z; exact Nat.lt_irrefl _ z
    have hb1:bb < w1.heap.size:=(Array.getElem?_eq_some_iff.1 hbl).1;have g0:=M1.o.ext.cell F0.o;have g1:=M1.o.ext.cell F1.o;have hn8:=zk2 hl hyb;have hn9:=zk2 hr hyb;replace hl:=zaw hl M1.o.ext;replace hr:=zaw hr M1.o.ext;replace he:=he.trans M1.o.ext;have V1:=zhd (fun w' (h:Near w1 u8.ownBlock u9.ownBlock w')=>(h.keep bb hb1 hs8 hs9).trans hbl);have V2:=zhd (fun w' (h:Near w1 u8.ownBlock u9.ownBlock w')=>And.intro (h.cell g0 hn8 hn9) (h.cell g1 hn8 hn9));clear M1 HW1 HBB hbl hs8 hs9 hb1 g0 g1 hn8 hn9 hyb F0 F1;have HSZ:Hid (w.heap.size<=w1.heap.size):=he.size;refine zbF (S:=Near w1 u8.ownBlock u9.ownBlock) (by kernel_rfl) (fun wd ed _=>?_);have HSS:=zhd ((Near.refl w1 u8.ownBlock u9.ownBlock).ext ed);have HA:=zhd (zaw hl ed);have HB:=zhd (zaw hr ed);have HE:=zhd (he.trans ed);clear hl hr he ed;refine zaE 0 rfl (by kernel_rfl) (by kernel_rfl) (by kernel_rfl) (fun _ _ _ _ h=>h) rfl HSS.o (fun K hK=>?_); go_simp; refine hK _ ?_; clear hK K;refine zaS 1 rfl (by kernel_rfl) (by kernel_rfl) (by kernel_rfl) (fun _ _ _ _ h=>h) rfl 35 (.tmp 11) rfl bb rfl (cs:=[I n,I tk,I kd,I nm,I ot,I nn]) V1.o znh (by kernel_rfl) HSS ?_;refine zag fun K h=>?_; go_simp; refine h _ ?_; clear h K;refine zaE 4 rfl (by kernel_rfl) (by kernel_rfl) (by kernel_rfl) (fun _ _ _ _ h=>h) rfl HSS.o (fun K hK=>?_); go_simp; refine hK _ ?_; clear hK K;refine zaE 5 rfl (by kernel_rfl) (by kernel_rfl) (by kernel_rfl) (fun _ _ _ _ h=>h) rfl HSS.o (fun K hK=>?_); go_simp; refine hK _ ?_; clear hK K;refine zaE 6 rfl (by kernel_rfl) (by kernel_rfl) (by kernel_rfl) (fun _ _ _ _ h=>h) rfl HSS.o (fun K hK=>?_); go_simp; refine hK _ ?_; clear hK K;refine zbR 7 rfl (by kernel_rfl) (by kernel_rfl) (by kernel_rfl) (fun _ _ _ _ h=>h) (.pointer (some ⟨yb,yo+k * 2,none⟩)) rfl (fun w' _=>by go_simp) HSS.o ?_;refine zag fun K h=>?_; go_simp; refine h _ ?_; clear h K;refine zbR 8 rfl (by kernel_rfl) (by kernel_rfl) (by kernel_rfl) (fun _ _ _ _ h=>h) (.agg #[I ye,I yn]) rfl (fun w' hS=>by have q0:=(V2.o w' hS).1; have q1:=(V2.o w' hS).2; go_simp) HSS.o ?_;refine zag fun K h=>?_; go_simp; refine h _ ?_; clear h K;refine zgV 2 9 (by kernel_rfl) ?_ ?_
    ·refine zen rfl rfl 35 1 #[I n,I tk,I kd,I nm,I ot,I nn] (by kernel_rfl) (fun b1 w1x M1=>⟨HSS.o.ext M1.o.ext,?_⟩);have HLA:=zhd (zbC (size:=6) M1.o (Nat.le_refl _) rfl (by decide));replace HSS:=zhd (HSS.o.ext M1.o.ext);replace HA:=zhd (zaw HA.o M1.o.ext);replace HB:=zhd (zaw HB.o M1.o.ext);replace HE:=zhd (HE.o.trans M1.o.ext);clear M1;refine zag fun K h=>?_; go_simp; refine h _ ?_; clear h K;refine zgV 3 9 (by kernel_rfl) ?_ ?_
     ·refine zcx rfl rfl (.tmp 23) (.tmp 25) 28 rfl w.heap.size 35 i0 (.agg #[.int .i64 0,.int .i64 0,.int .i64 0,.int .i64 0,.int .i64 0,.int .i64 0]) 6 48 zgO hi hz0 hz1 hz2 rfl (by decide) u8 ML.length (zaN ML) rfl HA.o _ rfl 1 [I n,I tk,I kd,I nm,I ot,I nn] (Row.of_owns HLA.o) (fun u hu=>by simp at hu; rcases hu with rfl | rfl | rfl | rfl | rfl | rfl <;> rfl) (by have z:=RB.o.1; omega) (by decide) HE.o.size (fun o2 w2x ho hg=>⟨HSS.o.left hg,?_⟩);replace HB:=zhd (HB.o.kept hg (zbW HB.o HA.o (by decide)));replace HE:=zhd (HE.o.grown hg (fun j hj=>(HA.o.lt j hj).1));clear HLA;replace HA:=zhd ho;replace HSS:=zhd (HSS.o.left hg);clear ho hg;refine zag fun K h=>?_; go_simp; refine h _ ?_; clear h K;refine zct 9 (by kernel_rfl) ?_;refine zen rfl rfl 38 1 #[I ye,I yn] (by kernel_rfl) (fun b3 w3x M3=>⟨HSS.o.ext M3.o.ext,?_⟩);have HLB:=zhd (zbC (size:=2) M3.o (Nat.le_refl _) rfl (by decide));replace HSS:=zhd (HSS.o.ext M3.o.ext);replace HA:=zhd (zaw HA.o M3.o.ext);replace HB:=zhd (zaw HB.o M3.o.ext);replace HE:=zhd (HE.o.trans M3.o.ext);clear M3;refine zag fun K h=>?_; go_simp; refine h _ ?_; clear h K;refine zct 10 (by kernel_rfl) ?_;refine zcx rfl rfl (.tmp 27) (.tmp 32) 47 rfl w.heap.size 38 j0 (.agg #[.int .i64 0,.int .i64 0]) 2 16 zg5 hj hy0 hy1 hy2 rfl (by decide) u9 TL.length (zbh TL) rfl HB.o _ rfl 1 [I ye,I yn] (Row.of_owns HLB.o) (fun u hu=>by simp at hu; rcases hu with rfl | rfl <;> rfl) (by have z:=RB.o.2; omega) (by decide) HE.o.size (fun o4 w4x ho hg=>⟨HSS.o.right hg,?_⟩);replace HA:=zhd (HA.o.kept hg (zbW HA.o HB.o (by decide)));replace HE:=zhd (HE.o.grown hg (fun j hj=>(HB.o.lt j hj).1));clear HLB;replace HB:=zhd ho;replace HSS:=zhd (HSS.o.right hg);clear ho hg;refine zag fun K h=>?_; go_simp; refine h _ ?_; clear h K;refine zaE 11 rfl (by kernel_rfl) (by kernel_rfl) (by kernel_rfl) (fun _ _ _ _ h=>h) rfl HSS.o (fun K hK=>?_); go_simp; refine hK _ ?_; clear hK K;refine zaE 12 rfl (by kernel_rfl) (by kernel_rfl) (by kernel_rfl) (fun _ _ _ _ h=>h) rfl HSS.o (fun K hK=>?_); go_simp; refine hK _ ?_; clear hK K;refine wpAnyH_done (by kernel_rfl) ?_ _;clear HSS V1 V2;go_wp2
      go_roundw
      case rel =>
       refine ⟨k+1,by omega,by go_num,?_,?_,HE.o⟩
       ·rw [HM.o,if_pos trivial,List.length_append,zd3]; exact HA.o
       ·rw [HT.o,if_pos trivial,List.length_append,zck]; exact HB.o
      case measure=>simp [intOf]; omega
     ·refine zen rfl rfl 38 1 #[I ye,I yn] (by kernel_rfl) (fun b5 w5x M5=>⟨HSS.o.ext M5.o.ext,?_⟩);have HLB:=zhd (zbC (size:=2) M5.o (Nat.le_refl _) rfl (by decide));replace HSS:=zhd (HSS.o.ext M5.o.ext);replace HA:=zhd (zaw HA.o M5.o.ext);replace HB:=zhd (zaw HB.o M5.o.ext);replace HE:=zhd (HE.o.trans M5.o.ext);replace HLA:=zhd (zaw HLA.o M5.o.ext);clear M5;refine zag fun K h=>?_; go_simp; refine h _ ?_; clear h K;refine zct 3 (by kernel_rfl) ?_;refine zcx rfl rfl (.tmp 23) (.tmp 25) 28 rfl w.heap.size 35 i0 (.agg #[.int .i64 0,.int .i64 0,.int .i64 0,.int .i64 0,.int .i64 0,.int .i64 0]) 6 48 zgO hi hz0 hz1 hz2 rfl (by decide) u8 ML.length (zaN ML) rfl HA.o _ rfl 1 [I n,I tk,I kd,I nm,I ot,I nn] (Row.of_owns HLA.o) (fun u hu=>by simp at hu; rcases hu with rfl | rfl | rfl | rfl | rfl | rfl <;> rfl) (by have z:=RB.o.1; omega) (by decide) HE.o.size (fun o6 w6x ho hg=>⟨HSS.o.left hg,?_⟩);replace HB:=zhd (HB.o.kept hg (zbW HB.o HA.o (by decide)));replace HE:=zhd (HE.o.grown hg (fun j hj=>(HA.o.lt j hj).1));replace HLB:=zhd (HLB.o.kept hg (zbW HLB.o HA.o (by decide)));clear HLA;replace HA:=zhd ho;replace HSS:=zhd (HSS.o.left hg);clear ho hg;refine zag fun K h=>?_; go_simp; refine h _ ?_; clear h K;refine zct 10 (by kernel_rfl) ?_;refine zcx rfl rfl (.tmp 27) (.tmp 32) 47 rfl w.heap.size 38 j0 (.agg #[.int .i64 0,.int .i64 0]) 2 16 zg5 hj hy0 hy1 hy2 rfl (by decide) u9 TL.length (zbh TL) rfl HB.o _ rfl 1 [I ye,I yn] (Row.of_owns HLB.o) (fun u hu=>by simp at hu; rcases hu with rfl | rfl <;> rfl) (by have z:=RB.o.2; omega) (by decide) HE.o.size (fun o7 w7x ho hg=>⟨HSS.o.right hg,?_⟩);replace HA:=zhd (HA.o.kept hg (zbW HA.o HB.o (by decide)));replace HE:=zhd (HE.o.grown hg (fun j hj=>(HB.o.lt j hj).1));clear HLB;replace HB:=zhd ho;replace HSS:=zhd (HSS.o.right hg);clear ho hg;refine zag fun K h=>?_; go_simp; refine h _ ?_; clear h K;refine zaE 11 rfl (by kernel_rfl) (by kernel_rfl) (by kernel_rfl) (fun _ _ _ _ h=>h) rfl HSS.o (fun K hK=>?_); go_simp; refine hK _ ?_; clear hK K;refine zaE 12 rfl (by kernel_rfl) (by kernel_rfl) (by kernel_rfl) (fun _ _ _ _ h=>h) rfl HSS.o (fun K hK=>?_); go_simp; refine hK _ ?_; clear hK K;refine wpAnyH_done (by kernel_rfl) ?_ _;clear HSS V1 V2;go_wp2
      go_roundw
      case rel =>
       refine ⟨k+1,by omega,by go_num,?_,?_,HE.o⟩
       ·rw [HM.o,if_pos trivial,List.length_append,zd3]; exact HA.o
       ·rw [HT.o,if_pos trivial,List.length_append,zck]; exact HB.o
      case measure=>simp [intOf]; omega
    ·refine zen rfl rfl 38 1 #[I ye,I yn] (by kernel_rfl) (fun b8 w8x M8=>⟨HSS.o.ext M8.o.ext,?_⟩);have HLB:=zhd (zbC (size:=2) M8.o (Nat.le_refl _) rfl (by decide));replace HSS:=zhd (HSS.o.ext M8.o.ext);replace HA:=zhd (zaw HA.o M8.o.ext);replace HB:=zhd (zaw HB.o M8.o.ext);replace HE:=zhd (HE.o.trans M8.o.ext);clear M8;refine zag fun K h=>?_; go_simp; refine h _ ?_; clear h K;refine zct 2 (by kernel_rfl) ?_;refine zen rfl rfl 35 1 #[I n,I tk,I kd,I nm,I ot,I nn] (by kernel_rfl) (fun b9 w9x M9=>⟨HSS.o.ext M9.o.ext,?_⟩);have HLA:=zhd (zbC (size:=6) M9.o (Nat.le_refl _) rfl (by decide));replace HSS:=zhd (HSS.o.ext M9.o.ext);replace HA:=zhd (zaw HA.o M9.o.ext);replace HB:=zhd (zaw HB.o M9.o.ext);replace HE:=zhd (HE.o.trans M9.o.ext);replace HLB:=zhd (zaw HLB.o M9.o.ext);clear M9;refine zag fun K h=>?_; go_simp; refine h _ ?_; clear h K;refine zct 3 (by kernel_rfl) ?_;refine zcx rfl rfl (.tmp 23) (.tmp 25) 28 rfl w.heap.size 35 i0 (.agg #[.int .i64 0,.int .i64 0,.int .i64 0,.int .i64 0,.int .i64 0,.int .i64 0]) 6 48 zgO hi hz0 hz1 hz2 rfl (by decide) u8 ML.length (zaN ML) rfl HA.o _ rfl 1 [I n,I tk,I kd,I nm,I ot,I nn] (Row.of_owns HLA.o) (fun u hu=>by simp at hu; rcases hu with rfl | rfl | rfl | rfl | rfl | rfl <;> rfl) (by have z:=RB.o.1; omega) (by decide) HE.o.size (fun o10 w10x ho hg=>⟨HSS.o.left hg,?_⟩);replace HB:=zhd (HB.o.kept hg (zbW HB.o HA.o (by decide)));replace HE:=zhd (HE.o.grown hg (fun j hj=>(HA.o.lt j hj).1));replace HLB:=zhd (HLB.o.kept hg (zbW HLB.o HA.o (by decide)));clear HLA;replace HA:=zhd ho;replace HSS:=zhd (HSS.o.left hg);clear ho hg;refine zag fun K h=>?_; go_simp; refine h _ ?_; clear h K;refine zct 10 (by kernel_rfl) ?_;refine zcx rfl rfl (.tmp 27) (.tmp 32) 47 rfl w.heap.size 38 j0 (.agg #[.int .i64 0,.int .i64 0]) 2 16 zg5 hj hy0 hy1 hy2 rfl (by decide) u9 TL.length (zbh TL) rfl HB.o _ rfl 1 [I ye,I yn] (Row.of_owns HLB.o) (fun u hu=>by simp at hu; rcases hu with rfl | rfl <;> rfl) (by have z:=RB.o.2; omega) (by decide) HE.o.size (fun o11 w11x ho hg=>⟨HSS.o.right hg,?_⟩);replace HA:=zhd (HA.o.kept hg (zbW HA.o HB.o (by decide)));replace HE:=zhd (HE.o.grown hg (fun j hj=>(HB.o.lt j hj).1));clear HLB;replace HB:=zhd ho;replace HSS:=zhd (HSS.o.right hg);clear ho hg;refine zag fun K h=>?_; go_simp; refine h _ ?_; clear h K;refine zaE 11 rfl (by kernel_rfl) (by kernel_rfl) (by kernel_rfl) (fun _ _ _ _ h=>h) rfl HSS.o (fun K hK=>?_); go_simp; refine hK _ ?_; clear hK K;refine zaE 12 rfl (by kernel_rfl) (by kernel_rfl) (by kernel_rfl) (fun _ _ _ _ h=>h) rfl HSS.o (fun K hK=>?_); go_simp; refine hK _ ?_; clear hK K
     refine wpAnyH_done (by kernel_rfl) ?_ _;clear HSS V1 V2;go_wp2
     go_roundw
     case rel =>
      refine ⟨k+1,by omega,by go_num,?_,?_,HE.o⟩
      ·rw [HM.o,if_pos trivial,List.length_append,zd3]; exact HA.o
      ·rw [HT.o,if_pos trivial,List.length_append,zck]; exact HB.o
     case measure=>simp [intOf]; omega
   ·have hdc:decide (rc=n)=false:=by simp [hc]
    clear F0 F1;go_wp2
    go_roundw
    case rel =>
     refine ⟨k+1,by omega,by go_num,?_,?_,he.alloc _⟩
     ·rw [HM.o,if_neg hc]; exact hl.alloc _
     ·rw [HT.o,if_neg hc]; exact hr.alloc _
    case measure=>simp [intOf]; omega
  ·go_wp2
   go_ret2
   rw [List.take_of_length_le (by omega)] at hl;rw [List.take_of_length_le (by rw [List.length_zip]; omega)] at hr;exact ⟨_,rfl,he,_,_,rfl,zbI.2 (Row.of_owns hl),(zbz (f:=fun (x:Rp)=>[I x.err,I x.n]) (fun _=>rfl)).2 (Row.of_owns hr)⟩

theorem ziH:zf1:=fun m c u a p box plan cl n w A hx hl=>by
 unfold zba
 have HP:=zhd hx.past.o
 have HW:=zhd hl.past
 have HN:=zhd hl.len
 obtain ⟨ca,cc,ua,uc,aa,ac,pa,pc,xa,xc,la,lc,ka,kc,rfl,rfl,rfl,rfl,rfl,rfl,rfl⟩:=hx.slices
 clear hx hl
 obtain ⟨⟨sc,su,sa,sp⟩,⟨gen,bl,busy,⟨nc,nt,⟨nk,na,no,nn⟩⟩,pl,⟨se,sn⟩⟩,up,pause,falls,cls⟩:=m
 have HQL:Hid ((allCl (sp.map Rq.call)).2.length=sp.length):=by unfold Hid; rw [zfh]; simp
 obtain ⟨q,HQ⟩:∃ q,Hid ((allCl (sp.map Rq.call)).2=q):=⟨_,rfl⟩
 have EW:=zhd (Ext.refl w)
 go_enter Try.func8,Try.ntmps8
 go_wp2_with (with_reducible refine zT ?_)
 refine zal rfl 43 (.tmp 0) rfl #[.slice ca sc.length cc,.slice ua su.length uc,.slice aa sa.length ac,.slice pa sp.length pc,I gen,.slice xa bl.length xc,.bool busy,I nc,I nt,I nk,I na,I no,I nn,.slice la pl.length lc,I se,I sn,.bool up,I pause,I falls,.slice ka cls.length kc] rfl (fun b0 w1_ M1=>?_)
 have zab:=zmb M1
 replace EW:=zet EW M1
 have c3:=zaa (i:=3) zab.o rfl
 go_wp2_with fail
 clear c3
 refine (zk0 _ sp w1_ (zbI.1 (HP.o.ext zc1 EW.o)) HW.o (by have z:sp.length<=1000:=HN.o; omega)).mono ?_
 rintro e w2 ⟨r,rfl,e2,xv,yv,rfl,hx,hy⟩
 have hyl:(allCl (sp.map Rq.call)).2.length=sp.length:=HQL.o
 simp only [show (allCl (sp.map Rq.call)).2=q from HQ.o] at hy hyl ⊢
 replace zab:=zbx zab e2
 have c3:=zaa (i:=3) zab.o rfl
 have e3:=EW.o.trans e2
 clear EW
 go_wp2_with fail
 clear c3
 refine (zm6 _ _ sp q n w2 (HP.o.ext zc1 e3) hy hyl (by have z:sp.length<=1000:=HN.o; omega)).to fun r w4 e4 hr=>?_
 obtain ⟨x,y,rfl,h1,h2⟩:=hr
 go_wp2
 go_ret2
 exact ⟨_,rfl,e3.trans e4,x,y,rfl,h1,by rw [show (allCl (sp.map Rq.call)).2=q from HQ.o]; exact h2⟩

open Go.RowKit Go.Mk

theorem ziF (u v:Value) (xs ys:List (Int×Int)) (w:World) (hu:zan w u xs) (hv:zan w v ys) :
  Calls Try.prog 29 #[u,v] w fun e w'=>e=.returned (.bool (decide (xs=ys)))/\∃ n,w'=w.drewN n:=by
 obtain ⟨ao,cap,rfl,h1,h2,h3⟩:=hu.form;obtain ⟨bo,cap',rfl,g1,g2,g3⟩:=hv.form;unfold maxLen at h2 g2;clear hu hv;by_cases hl:xs.length=ys.length
 ·have hne:(((xs.length:Int)) != (ys.length:Int))=false:=by rw [bne_eq_false_iff_eq]; omega
  have HL:Hid (xs.length=ys.length):=hl;clear hl;go_enter Try.func29,Try.ntmps29
  go_wp2
  go_loopw [13] (fun i wr=>∃ k:Nat,k<=xs.length/\i=I k/\xs.take k=ys.take k/\∃ n,wr=w.drewN n) (fun i _=>xs.length - (intOf i).toNat)
  case atStart=>exact ⟨0,by omega,rfl,rfl,0,rfl⟩
  case round =>
   obtain ⟨k,hk,rfl,hf,n,rfl⟩:=hrel;have HF:Hid (xs.take k=ys.take k):=hf;clear hf;by_cases hlt:k < xs.length
   ·have hlt':k < ys.length:=by have:=HL.o; omega
    obtain ⟨b,off,rfl,hc,hd⟩:=h3 k hlt;obtain ⟨b',off',rfl,hc',hd'⟩:=g3 k hlt';clear h3 g3;generalize hX:xs.getD k (0,0)=x at hc hd;generalize hY:ys.getD k (0,0)=y at hc' hd';have HX:Hid (xs[k]?=some x):=by unfold Hid; rw [<- hX]; simp [hlt]
    have HY:Hid (ys[k]?=some y):=by unfold Hid; rw [<- hY]; simp [hlt']
    clear hX hY;obtain ⟨x1,x2⟩:=x;obtain ⟨y1,y2⟩:=y;simp only [] at hc hd hc' hd';have b1:(0:Int)<=(k:Int):=by omega
    have b2:(k:Int) < (xs.length:Int):=by omega
    have b3:(k:Int) < (ys.length:Int):=by omega
    have hst:Try.prog.stoodInHeld 74=false:=by kernel_rfl
    have hgd:Try.prog.eqGuardType Try.prog.depth 74=false:=by kernel_rfl
    by_cases hx:x1=y1
    ·have hb1:(x1 == y1)=true:=by simp [hx]
     have HX1:Hid (x1=y1):=hx;clear hx;by_cases hy:x2=y2
     ·have hb2:(x2 == y2)=true:=by simp [hy]
      have HX2:Hid (x2=y2):=hy;clear hy;go_wp2_with fail
      go_quiet (fail)
      go_wp2
      go_roundw
      case rel=>exact ⟨k+1,by omega,by go_num,by rw [List.take_add_one,List.take_add_one,HF.o,HX.o,HY.o,HX1.o,HX2.o],_,rfl⟩
      case measure=>simp [intOf]; omega
     ·have hb2:(x2 == y2)=false:=by simpa using hy
      have HX2:Hid (x2≠y2):=hy;clear hy;go_wp2_with fail
      go_quiet (fail)
      go_wp2
      go_ret
      refine ⟨zbM ?_,_,World.drewN_drewN _ _ _⟩;symm;rw [decide_eq_false_iff_not];intro e;have h:=HX.o;rw [e,HY.o] at h;simp only [Option.some.injEq,Prod.mk.injEq] at h;exact HX2.o h.2.symm
    ·have hb1:(x1 == y1)=false:=by simpa using hx
     have HX1:Hid (x1≠y1):=hx;clear hx;go_wp2_with fail
     go_quiet (fail)
     go_wp2
     go_ret
     refine ⟨zbM ?_,_,World.drewN_drewN _ _ _⟩;symm;rw [decide_eq_false_iff_not];intro e;have h:=HX.o;rw [e,HY.o] at h;simp only [Option.some.injEq,Prod.mk.injEq] at h;exact HX1.o h.1.symm
   ·go_wp2
    go_ret
    refine ⟨zbM ?_,_,rfl⟩;symm;rw [decide_eq_true_eq];have h:=HF.o;rwa [List.take_of_length_le (by omega),List.take_of_length_le (by have:=HL.o; omega)] at h
 ·have hne:(((xs.length:Int)) != (ys.length:Int))=true:=by rw [bne_iff_ne]; omega
  go_enter Try.func29,Try.ntmps29
  go_wp2
  go_ret
  refine ⟨zbM ?_,0,rfl⟩;symm;rw [decide_eq_false_iff_not];intro e;exact hl (by rw [e])

theorem zhT (u v:Value) (xs ys:List (Int×Int)) (w:World) (hu:zan w u xs) (hv:zan w v ys) :
  Calls Try.prog 49 #[u,v] w fun e w'=>e=.returned (.bool (decide (xs=ys)))/\∃ n,w'=w.drewN n:=by
 obtain ⟨ao,cap,rfl,h1,h2,h3⟩:=hu.form;obtain ⟨bo,cap',rfl,g1,g2,g3⟩:=hv.form;unfold maxLen at h2 g2;clear hu hv;by_cases hl:xs.length=ys.length
 ·have hne:(((xs.length:Int)) != (ys.length:Int))=false:=by rw [bne_eq_false_iff_eq]; omega
  have HL:Hid (xs.length=ys.length):=hl;clear hl;go_enter Try.func49,Try.ntmps49
  go_wp2
  go_loopw [13] (fun i wr=>∃ k:Nat,k<=xs.length/\i=I k/\xs.take k=ys.take k/\∃ n,wr=w.drewN n) (fun i _=>xs.length - (intOf i).toNat)
  case atStart=>exact ⟨0,by omega,rfl,rfl,0,rfl⟩
  case round =>
   obtain ⟨k,hk,rfl,hf,n,rfl⟩:=hrel;have HF:Hid (xs.take k=ys.take k):=hf;clear hf;by_cases hlt:k < xs.length
   ·have hlt':k < ys.length:=by have:=HL.o; omega
    obtain ⟨b,off,rfl,hc,hd⟩:=h3 k hlt;obtain ⟨b',off',rfl,hc',hd'⟩:=g3 k hlt';clear h3 g3;generalize hX:xs.getD k (0,0)=x at hc hd;generalize hY:ys.getD k (0,0)=y at hc' hd';have HX:Hid (xs[k]?=some x):=by unfold Hid; rw [<- hX]; simp [hlt]
    have HY:Hid (ys[k]?=some y):=by unfold Hid; rw [<- hY]; simp [hlt']
    clear hX hY;obtain ⟨x1,x2⟩:=x;obtain ⟨y1,y2⟩:=y;simp only [] at hc hd hc' hd';have b1:(0:Int)<=(k:Int):=by omega
    have b2:(k:Int) < (xs.length:Int):=by omega
    have b3:(k:Int) < (ys.length:Int):=by omega
    have hst:Try.prog.stoodInHeld 38=false:=by kernel_rfl
    have hgd:Try.prog.eqGuardType Try.prog.depth 38=false:=by kernel_rfl
    by_cases hx:x1=y1
    ·have hb1:(x1 == y1)=true:=by simp [hx]
     have HX1:Hid (x1=y1):=hx;clear hx;by_cases hy:x2=y2
     ·have hb2:(x2 == y2)=true:=by simp [hy]
      have HX2:Hid (x2=y2):=hy;clear hy;go_wp2_with fail
      go_quiet (fail)
      go_wp2
      go_roundw
      case rel=>exact ⟨k+1,by omega,by go_num,by rw [List.take_add_one,List.take_add_one,HF.o,HX.o,HY.o,HX1.o,HX2.o],_,rfl⟩
      case measure=>simp [intOf]; omega
     ·have hb2:(x2 == y2)=false:=by simpa using hy
      have HX2:Hid (x2≠y2):=hy;clear hy;go_wp2_with fail
      go_quiet (fail)
      go_wp2
      go_ret
      refine ⟨zbM ?_,_,World.drewN_drewN _ _ _⟩;symm;rw [decide_eq_false_iff_not];intro e;have h:=HX.o;rw [e,HY.o] at h;simp only [Option.some.injEq,Prod.mk.injEq] at h;exact HX2.o h.2.symm
    ·have hb1:(x1 == y1)=false:=by simpa using hx
     have HX1:Hid (x1≠y1):=hx;clear hx;go_wp2_with fail
     go_quiet (fail)
     go_wp2
     go_ret
     refine ⟨zbM ?_,_,World.drewN_drewN _ _ _⟩;symm;rw [decide_eq_false_iff_not];intro e;have h:=HX.o;rw [e,HY.o] at h;simp only [Option.some.injEq,Prod.mk.injEq] at h;exact HX1.o h.1.symm
   ·go_wp2
    go_ret
    refine ⟨zbM ?_,_,rfl⟩;symm;rw [decide_eq_true_eq];have h:=HF.o;rwa [List.take_of_length_le (by omega),List.take_of_length_le (by have:=HL.o; omega)] at h
 ·have hne:(((xs.length:Int)) != (ys.length:Int))=true:=by rw [bne_iff_ne]; omega
  go_enter Try.func49,Try.ntmps49
  go_wp2
  go_ret
  refine ⟨zbM ?_,0,rfl⟩;symm;rw [decide_eq_false_iff_not];intro e;exact hl (by rw [e])

theorem zj0 (a b d:Value) (n:Nat) (aa:Option Addr) (ac:Nat) (ha:a=.slice aa n ac) (xt xg:Int) (xs:Bool) (w:World) :
  Calls Try.prog 25 #[.agg #[a,I xt,.bool xs,I xg,b,d]] w fun e w'=>e=.returned (.bool (decide (xt < (n:Int))))/\Ext w w':=by
 subst ha;have EW:=zhd (Ext.refl w);go_enter Try.func25,Try.ntmps25
 go_wp2_with (with_reducible refine zT ?_)
 refine zal rfl 61 (.tmp 0) rfl #[.slice aa n ac,I xt,.bool xs,I xg,b,d] rfl (fun b0 w1_ M1=>?_);have zab:=zmb M1;have c0:=zaa (i:=0) zab.o rfl;have c1:=zaa (i:=1) zab.o rfl;go_wp2
 go_ret
 replace EW:=zet EW M1;exact ⟨rfl,EW.o⟩

theorem zjW:∀ (args:Array Value) (w:World),(callFunc 25 args).run Try.prog w=.ok (.enter 25 args) w:=fun _ _=>by kernel_rfl

theorem zhL (v:Value) (l:List Cn) (w:World) (hv:zaq 6 zdw w v l) :
  Calls Try.prog 42 #[v,.func (.func 25) #[] #[]] w fun e w'=>∃ r:Int,e=.returned (I r)/\Ext w w'/\(decide (r ≥ 0)=!(l.all fun c=>decide ((c.calls.length:Int)<=c.at_))):=by
 obtain ⟨ka,kc,rfl,k1,k2,k3⟩:=zhr hv;unfold maxLen at k2;have K3:=zhd k3;clear hv k3;have hE:=zjW;go_enter Try.func42,Try.ntmps42
 go_wp2
 go_loopw [8] (fun i wr=>∃ k:Nat,k<=l.length/\i=I k/\((l.take k).all fun c=>decide ((c.calls.length:Int)<=c.at_))=true/\Ext w wr) (fun i _=>l.length - (intOf i).toNat)
 case atStart=>exact ⟨0,by omega,rfl,rfl,Ext.refl _⟩
 case round =>
  obtain ⟨k,hk,rfl,hal,he⟩:=hrel;have HAL:=zhd hal;clear hal;by_cases hlt:k < l.length
  ·obtain ⟨x,hx⟩:∃ x,l[k]?=some x:=⟨l[k],List.getElem?_eq_getElem hlt⟩;obtain ⟨b,off,x1,x2,x3,rfl,c0,c1,c2,c3,c4,c5,g1⟩:=K3.o k x hx;obtain ⟨cla,clc,rfl⟩:=zac (zdk.1 g1).1;have HX:=zhd hx;clear hx g1;obtain ⟨xl,xt,xs,xg,xb,xo⟩:=x;simp only [] at c0 c1 c2 c3 c4 c5;replace c0:=he.cell c0;replace c1:=he.cell c1;replace c2:=he.cell c2;replace c3:=he.cell c3;replace c4:=he.cell c4;replace c5:=he.cell c5;go_wp2_with fail
   clear c0 c1 c2 c3 c4 c5;refine Calls.exts (zj0 _ _ _ xl.length cla clc rfl xt xg xs wr) (fun w2 e2=>?_);by_cases hc:xt < (xl.length:Int)
   ·have hbt:decide (xt < (xl.length:Int))=true:=decide_eq_true hc;have HC:=zhd hc;clear hc;go_wp2
    go_ret
    refine ⟨_,rfl,he.trans e2,?_⟩
    have hal2:(l.all fun c=>decide ((c.calls.length:Int)<=c.at_))=false:=by
     rw [List.all_eq_false];exact ⟨_,List.mem_of_getElem? HX.o,by simpa using HC.o⟩
    rw [hal2];simp
   ·have hbt:decide (xt < (xl.length:Int))=false:=decide_eq_false hc;have HC:=zhd hc;clear hc;go_wp2
    go_roundw
    case rel =>
     refine ⟨k+1,by omega,by go_num,?_,he.trans e2⟩;rw [List.take_add_one,HX.o];simp only [Option.toList_some,List.all_append,HAL.o,List.all_cons,List.all_nil,Bool.and_true,Bool.true_and];have q:=HC.o;simpa using q
    case measure=>simp [intOf]; omega
  ·have hkl:k=l.length:=by omega
   subst hkl;go_wp2
   go_ret
   refine ⟨_,rfl,he,?_⟩;have q:=HAL.o;rw [List.take_length] at q;rw [q];rfl

theorem zjX (v:Value) (l:List Cn) (w:World) (hv:zaq 6 zdw w v l) :
  Calls Try.prog 24 #[v,.func (.func 25) #[] #[]] w fun e w'=>e=.returned (.bool (!(l.all fun c=>decide ((c.calls.length:Int)<=c.at_))))/\Ext w w':=by
 obtain ⟨G,HG⟩:∃ G:Bool,Hid ((l.all fun c=>decide ((c.calls.length:Int)<=c.at_))=G):=⟨_,rfl⟩;simp only [show (l.all fun c=>decide ((c.calls.length:Int)<=c.at_))=G from HG.o];go_enter Try.func24,Try.ntmps24
 go_wp2_with fail
 refine (zhL v l w hv).mono ?_;rintro e w2 ⟨r,rfl,e2,hr⟩
 rw [HG.o] at hr;go_wp2
 go_ret
 exact ⟨by rw [<- hr]; rfl,e2⟩

theorem zkO:zhl:=fun m c u a p box plan cl w A hx hl=>by
 refine zb6 ?_
 unfold zf3
 have HCL:=zhd hx.clients.o
 obtain ⟨ca,cc,ua,uc,aa,ac,pa,pc,xa,xc,la,lc,ka,kc,rfl,rfl,rfl,rfl,rfl,rfl,rfl⟩:=hx.slices
 clear hx hl
 obtain ⟨⟨sc,su,sa,sp⟩,⟨gen,bl,busy,⟨nc,nt,⟨nk,na,no,nn⟩⟩,pl,⟨se,sn⟩⟩,up,pause,falls,cls⟩:=m
 obtain ⟨G,HG⟩:∃ G:Bool,Hid ((cls.all fun c=>decide ((c.calls.length:Int)<=c.at_))=G):=⟨_,rfl⟩
 simp only [show (cls.all fun c=>decide ((c.calls.length:Int)<=c.at_))=G from HG.o]
 have EW:=zhd (Ext.refl w)
 go_enter Try.func11,Try.ntmps11
 go_wp2_with (with_reducible refine zT ?_)
 refine zal rfl 43 (.tmp 0) rfl #[.slice ca sc.length cc,.slice ua su.length uc,.slice aa sa.length ac,.slice pa sp.length pc,I gen,.slice xa bl.length xc,.bool busy,I nc,I nt,I nk,I na,I no,I nn,.slice la pl.length lc,I se,I sn,.bool up,I pause,I falls,.slice ka cls.length kc] rfl (fun b0 w1_ M1=>?_)
 have zab:=zmb M1
 replace EW:=zet EW M1
 have c19:=zaa (i:=19) zab.o rfl
 go_wp2_with fail
 refine Calls.exts (zjX _ cls _ (HCL.o.ext zj1 EW.o)) (fun w2 e2=>?_)
 rw [HG.o]
 go_wp2
 go_ret
 cases G <;> exact ⟨rfl,EW.o.trans e2⟩

end Go.Proofs.Ytdmipnnfoolelaf

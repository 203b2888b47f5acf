/- Texts of the proof, merged: Frame Frame5 Frame2 Frame3 Base D1 W1b D2 D3 D9 Box S1 S2. -/
import Derived.Test.YtdmipnnfoolelafGreatRows
import Derived.Test.YtdmipnnfoolelafGreatKTB
import Derived.Test.YtdmipnnfoolelafGreatKTC
import Derived.Test.YtdmipnnfoolelafGreatKTA
import Derived.Deep.QuietTactic
import Derived.BigQuiet
import Derived.BigRegion
import Derived.Handy
import Derived.Lib.Hide
set_option maxHeartbeats 1000000
set_option maxRecDepth 100000

namespace Go.Proofs.YtdmipnnfoolelafGreat
open Go.RowKit Go.Mk

theorem Tryz.own:ownKnob Tryz.prog.godebug=none:=by kernel_rfl
theorem Tryz.laidOut:laidOutB Tryz.prog=true:=by kernel_rfl
theorem Tryz.cellsInt:Tryz.prog.cellsOf 3=1:=by kernel_rfl
open Go.RowKit Go.Mk

theorem Tryz.cellsCalls:Tryz.prog.cellsOf 52=1:=by kernel_rfl
theorem Tryz.cellsStep:Tryz.prog.cellsOf 49=2:=by kernel_rfl
open Go.RowKit Go.Mk

theorem Tryz.cellsCall:Tryz.prog.cellsOf 34=4:=by kernel_rfl
open Go.RowKit Go.Mk

open Go.RowKit Go.Mk

abbrev zsx:=Tryz.underlying22
abbrev zpN:=Tryz.underlying23
abbrev zpg:=Tryz.underlying26
abbrev zfG:=Tryz.underlying27
abbrev zna:=Tryz.underlying28
abbrev zn1:=Tryz.underlying29
abbrev zu3:=Tryz.underlying3
abbrev zcX:=Tryz.underlying31
abbrev zoq:=Tryz.underlying32
abbrev zsB:=Tryz.underlying34
abbrev zn6:=Tryz.underlying36
abbrev ztr:=Tryz.underlying39
abbrev zu4:=Tryz.underlying4
abbrev zcr:=Tryz.underlying41
abbrev zqY:=Tryz.underlying42
abbrev zaS:=Tryz.underlying44
abbrev zti:=Tryz.underlying45
abbrev zrX:=Tryz.underlying49
abbrev zu5:=Tryz.underlying5
abbrev zqc:=Tryz.underlying52
abbrev znK:=Tryz.underlying53
abbrev zbN:=Tryz.underlying55
abbrev zo8:=Tryz.underlying70
abbrev zit:=Tryz.underlying81
abbrev zu9:=Tryz.underlying9
abbrev zs9:=Tryz.underlying97
theorem zng:(Tryz.prog.info? 27).map (·.size)=some 1:=by kernel_rfl
theorem zi3:(Tryz.prog.info? 3).map (·.size)=some 1:=by kernel_rfl
theorem zgh:(Tryz.prog.info? 31).map (·.size)=some 4:=by kernel_rfl
theorem zlu:(Tryz.prog.info? 32).map (·.size)=some 1:=by kernel_rfl
theorem zru:(Tryz.prog.info? 36).map (·.size)=some 6:=by kernel_rfl
theorem zrY:(Tryz.prog.info? 39).map (·.size)=some 2:=by kernel_rfl
theorem zi4:(Tryz.prog.info? 4).map (·.size)=some 1:=by kernel_rfl
theorem zdg:(Tryz.prog.info? 41).map (·.size)=some 12:=by kernel_rfl
theorem zr4:(Tryz.prog.info? 42).map (·.size)=some 1:=by kernel_rfl
theorem zaG:(Tryz.prog.info? 44).map (·.size)=some 20:=by kernel_rfl
theorem zqV:(Tryz.prog.info? 49).map (·.size)=some 2:=by kernel_rfl
theorem ztt:(Tryz.prog.info? 52).map (·.size)=some 1:=by kernel_rfl
theorem zsa:(Tryz.prog.info? 53).map (·.size)=some 1:=by kernel_rfl
theorem zbI:(Tryz.prog.info? 55).map (·.size)=some 6:=by kernel_rfl
theorem zoc:(Tryz.prog.info? 97).map (·.size)=some 4:=by kernel_rfl
theorem Tryz.infoInt:(Tryz.prog.info? 3).map (fun i=>(i.zero,i.size,i.bytes))=some (some (.int .i64 0),1,8):=by kernel_rfl

theorem Tryz.infoInt1:(Tryz.prog.info? 3).map (·.size)=some 1:=by kernel_rfl

theorem Tryz.infoWrite:(Tryz.prog.info? 111).map (fun i=>(i.zero,i.size,i.bytes))=some (some (.agg #[.int .i64 0,.int .i64 0]),2,16):=by kernel_rfl

theorem zer {k:IntKind} {a b:Int} (h:a=b):Ending.returned (.int k a)=.returned (.int k b):=by rw [h]

theorem zcB {a b:Bool} (h:a=b):Ending.returned (.bool a)=.returned (.bool b):=by rw [h]

theorem zll {w w':World} {v u:Value} (he:Ext w w') (h:v=u):∃ r,Ending.returned v=.returned r/\Ext w w'/\r=u:=⟨v,rfl,he,h⟩

theorem Calls.exts {P:Program} {f:FuncId} {args:Array Value} {w:World} {v:Value} {Q:Ending->World->Prop} (h:Calls P f args w fun e w'=>e=.returned v/\Ext w w') (k:∀ w',Ext w w'->Q (.returned v) w'):Calls P f args w Q :=
 h.mono fun e w' ⟨he,hx⟩=>by rw [he]; exact k w' hx

theorem zcb {P:Program} {f:FuncId} {args:Array Value} {w:World} {v:Value} (h:Calls P f args w fun e w'=>e=.returned v/\Ext w w'):zaT P f args w (fun r _=>r=v) :=
 Calls.mono h fun _ _ ⟨he,hx⟩=>⟨v,he,hx,rfl⟩

theorem Tryz.infoWrite2:(Tryz.prog.info? 111).map (fun i=>(i.zero,i.size,i.bytes))=some (some (.agg #[.int .i64 0,.int .i64 0]),2,16):=by kernel_rfl

theorem Tryz.infoWriteSz:(Tryz.prog.info? 111).map (·.size)=some 2:=by kernel_rfl

theorem zbo {w w1:World} {o:Obj} (e:Ext (w.alloc o) w1):w1.heap[w.heap.size]?=some o:=by
 have:=e.block w.heap.size (by simp)
 rw [this]
 exact heap_alloc_new w o

theorem zaW {w:World} {b i:Nat} {cs:Array Value} {t:TypeId} {u:Value} (h:w.heap[b]?=some (.cells cs t (0,0))) (hi:cs[i]?=some u):w.cell? ⟨b,i,none⟩=some u:=by
 simp [World.cell?,h,hi]

theorem zbt {w:World} {b i:Nat} {cs:Array Value} {t:TypeId} (h:w.heap[b]?=some (.cells cs t (0,0))):w.frozen? ⟨b,i,none⟩=false:=by
 simp [World.frozen?,h]

theorem zmn {w w1:World} {t:TypeId} {u v:Value} (e:Ext (w.alloc (.cells #[u,v] t)) w1) :
  w1.cell? ⟨w.heap.size,0,none⟩=some u/\w1.cell? ⟨w.heap.size,1,none⟩=some v/\w1.frozen? ⟨w.heap.size,0,none⟩=false/\w1.frozen? ⟨w.heap.size,1,none⟩=false :=
 ⟨zaW (zbo e) rfl,zaW (zbo e) rfl,zbt (zbo e),zbt (zbo e)⟩

theorem zsA {w w1:World} {t:TypeId} {u v:Value} (b:Nat) (e:Ext (w.alloc (.cells #[u,v] t)) w1) (hb:w.heap.size=b) :
  w1.cell? ⟨b,0,none⟩=some u/\w1.cell? ⟨b,1,none⟩=some v/\w1.frozen? ⟨b,0,none⟩=false/\w1.frozen? ⟨b,1,none⟩=false:=by
 subst hb; exact zmn e

theorem zaL {wx w1:World} {b:Nat} {t:TypeId} {u v:Value} (h:wx.heap[b]?=some (.cells #[u,v] t (0,0))) (e:Ext wx w1) :
  w1.cell? ⟨b,0,none⟩=some u/\w1.cell? ⟨b,1,none⟩=some v/\w1.frozen? ⟨b,0,none⟩=false/\w1.frozen? ⟨b,1,none⟩=false:=by
 have hb:b < wx.heap.size:=(Array.getElem?_eq_some_iff.1 h).1
 have h2:w1.heap[b]?=some (.cells #[u,v] t (0,0)):=by rw [e.block b hb]; exact h
 exact ⟨zaW h2 rfl,zaW h2 rfl,zbt h2,zbt h2⟩

theorem zhx (w:World) (o:Obj) (nq:Nat):((w.alloc o).drewN nq).heap[w.heap.size]?=some o:=heap_alloc_new w o

theorem zl4 {w:World} {o:Obj} {g i nq:Nat} {x:Value} (hg:g < w.heap.size):(((w.alloc o).drewN nq).setCell ⟨g,i,none⟩ x).heap[w.heap.size]?=some o:=by
 rw [Below.heap_setCell _ _ _ _ (fun e=>by simp only [] at e; omega)]
 exact heap_alloc_new w o

theorem zdP (w:World) (b i:Nat) (x:Value):w.grownBy (w.setCell ⟨b,i,none⟩ x) (some b) :=
 ⟨rfl,rfl,rfl,by simp,fun k _ hk=>Below.heap_setCell w _ x k (fun e=>hk (by simp [e]))⟩

theorem zbs {w:World} {base e size n:Nat} {v:Value} {xs:List Value} (h:w.ownsRow base e size v n xs) {b:Nat} (hb:v.ownBlock≠some b) (i:Nat) (x:Value):(w.setCell ⟨b,i,none⟩ x).ownsRow base e size v n xs :=
 h.kept (zdP w b i x) (.inr hb)

theorem zle {w w1:World} {row:Option Nat} (h:w.grownBy w1 row) {b:Nat} (hb:w.heap.size<=b) (i:Nat) (x:Value):w.grownBy (w1.setCell ⟨b,i,none⟩ x) row :=
 ⟨h.os,h.tape,h.output,by simpa using h.size,fun k hk hne=>by rw [Below.heap_setCell w1 _ x k (fun e=>by subst e; exact absurd hk (Nat.not_lt.2 hb))]; exact h.block k hk hne⟩

theorem zbc {w:World} {base e size n b:Nat} {v:Value} {xs:List Value} {cs:Array Value} {t:TypeId} (h:w.ownsRow base e size v n xs) (hb:w.heap[b]?=some (.cells cs t (0,0))) (hne:e≠t):v.ownBlock≠some b:=by
 intro he
 rcases h.2 with ⟨rfl,_⟩ | ⟨k,cap,cur,rfl,_,hk,_⟩
 ·cases he
 ·have e2:k=b:=by simpa [Value.ownBlock] using he
  subst e2
  rw [hb] at hk
  simp at hk
  exact hne hk.2.symm

theorem zdT:∀ (fn:Fn) (first cap:Array Value) (w:World),(Instr.makeFunc fn first cap).run Tryz.prog w=.ok (.func fn first cap) w:=fun _ _ _ _=>rfl

theorem zdW {w:World} {p:Addr} {v:Value} (h:w.cell? p=some v):p.block < w.heap.size:=by
 by_cases hb:p.block < w.heap.size
 ·exact hb
 ·simp [World.cell?,Array.getElem?_eq_none (Nat.le_of_not_lt hb)] at h

def Has (base:Nat) (w:World) (u:Value) (l:List (Int×Int)):Prop:=∃ x m lo,w.ownsRow base 111 2 x m (zaB lo)/\∀ w2:World,w2.ownsRow base 111 2 x m (zaB lo)->zax w2 u l

theorem zbj {w:World} {b1 b2 e size n:Nat} {v:Value} {xs:List Value} (h:w.ownsRow b1 e size v n xs) (hle:b2<=b1):w.ownsRow b2 e size v n xs:=by
 obtain ⟨h1,h2⟩:=h
 refine ⟨h1,?_⟩
 rcases h2 with h | ⟨g,cap,cur,rfl,hb,hr⟩
 ·exact .inl h
 ·exact .inr ⟨g,cap,cur,rfl,Nat.le_trans hle hb,hr⟩

theorem Has.writes {base:Nat} {w:World} {u:Value} {l:List (Int×Int)} (h:Has base w u l):zax w u l:=by
 obtain ⟨x,m,lo,h1,h2⟩:=h
 exact h2 w h1

theorem Has.ext {base:Nat} {w w':World} {u:Value} {l:List (Int×Int)} (h:Has base w u l) (he:Ext w w'):Has base w' u l:=by
 obtain ⟨x,m,lo,h1,h2⟩:=h
 exact ⟨x,m,lo,zam h1 he,h2⟩

theorem Has.nil (base:Nat) (w:World):Has base w (.slice none 0 0) []:=⟨.slice none 0 0,0,[],World.ownsRow_nil _ _ _ _,fun w2 _=>zbu w2⟩

theorem Has.set {base:Nat} {w:World} {u:Value} {l:List (Int×Int)} (h:Has base w u l) {b:Nat} (hb:b < base) (i:Nat) (y:Value):Has base (w.setCell ⟨b,i,none⟩ y) u l:=by
 obtain ⟨x,m,lo,h1,h2⟩:=h
 exact ⟨x,m,lo,zbs h1 (fun e=>by have:=(h1.lt b e).1; omega) i y,h2⟩

theorem Has.low {b1 b2:Nat} {w:World} {u:Value} {l:List (Int×Int)} (h:Has b1 w u l) (hle:b2<=b1):Has b2 w u l:=by
 obtain ⟨x,m,lo,h1,h2⟩:=h
 rcases h1.2 with ⟨rfl,rfl⟩ | ⟨g,cap,cur,rfl,hb,hr⟩
 ·exact ⟨_,_,lo,zbj h1 hle,fun w2 h3=>h2 w2 ⟨h3.1,.inl ⟨rfl,rfl⟩⟩⟩
 ·refine ⟨_,_,lo,zbj h1 hle,fun w2 h3=>h2 w2 ⟨h3.1,?_⟩⟩
  rcases h3.2 with ⟨e,_⟩ | ⟨g',cap',cur',e,hb',hr'⟩
  ·cases e
  ·have e2:g=g'/\cap=cap':=by simpa using e
   obtain ⟨rfl,rfl⟩:=e2
   exact .inr ⟨g,cap,cur',rfl,hb,hr'⟩

theorem zd4 {w:World} {b1 b2 e1 e2 s1 s2 n m:Nat} {x y:Value} {xs ys:List Value} (h1:w.ownsRow b1 e1 s1 x n xs) (h2:w.ownsRow b2 e2 s2 y m ys) (hne:e1≠e2):x.ownBlock=none∨x.ownBlock≠y.ownBlock:=by
 rcases h2.2 with ⟨rfl,_⟩ | ⟨k,cap,cur,rfl,_,hk,_⟩
 ·cases hx:x.ownBlock with
  | none=>exact .inl rfl
  | some j=>exact .inr (by simp [Value.ownBlock])
 ·exact .inr (zbc h1 hk hne)

theorem Has.grown {base:Nat} {w w':World} {u s:Value} {l:List (Int×Int)} {b e n:Nat} {ys:List Value} (h:Has base w u l) (hs:w.ownsRow b e 2 s n ys) (hne:(111:Nat)≠e) (hg:w.grownBy w' s.ownBlock):Has base w' u l:=by
 obtain ⟨x,m,lo,h1,h2⟩:=h
 exact ⟨x,m,lo,h1.kept hg (zd4 h1 hs hne),h2⟩

theorem zai {P:Program} {w0:World} {ops:Array Oper} {Q:Act->(Tmp->World->Prop)->Prop} {l:List Oper} {ks:List zdY} {a:Act} {F:Tmp->World->Prop} (h:∀ K:Act->Prop,(∀ a',wpM P w0 ops Q l ks a' F->K a')->K a):wpM P w0 ops Q l ks a F:=h _ (fun _ h=>h)

theorem zbG {p:Prop} (h:Hid p):p:=h.o

theorem zeD {w:World} (o:Obj) (e:TypeId) (l:List (Int×Int)) (cs:Array Value) (n:Nat) (hc:cs.toList=zaB l) (hn:l.length=n) (hm:n<=maxLen):zax ((w.alloc o).alloc (.cells cs e)) (.slice (some ⟨w.heap.size+1,0,none⟩) n n) l:=by
 have:=zcY (w:=w.alloc o) e l cs n hc hn hm
 simpa using this

theorem zf6 (base:Nat) (l:List (Int×Int)):∀ v,zcJ (fun w=>Has base w v l):=fun _ _ _ he h=>Has.ext h he

open Go.RowKit Go.Mk

theorem zc7 (v:Value) (xs:List Int) (name:Int) (w:World) (hv:zby w v xs) (hl:xs.length=11) (h0:0<=xs.getD 0 0) (h5:xs.getD 0 0<=5) :
  Calls Tryz.prog 92 #[v,I name] w fun e w'=>e=.returned (I (findIn xs name (xs.getD 0 0).toNat 0))/\w'=w:=by
 obtain ⟨ao,cap,rfl,h1,h2,h3⟩:=hv.form;unfold maxLen at h2;clear hv;rw [hl] at *;obtain ⟨b,off,rfl,hc0⟩:=h3 0 (by omega)
 have h3':∀ k,k < 11->w.cell? ⟨b,off+k,none⟩=some (I (xs.getD k 0)):=fun k hk=>by
  obtain ⟨b',off',he,hc⟩:=h3 k hk;simp only [Option.some.injEq,Addr.mk.injEq,and_true] at he;obtain ⟨rfl,rfl⟩:=he;exact hc
 have H3:Hid (∀ k,k < 11->w.cell? ⟨b,off+k,none⟩=some (I (xs.getD k 0))):=h3';clear h3 h3' hl;generalize hn:xs.getD 0 0=n at *;have HN:Hid (xs.getD 0 0=n):=hn;clear hn;simp only [Nat.add_zero] at hc0;go_enter Tryz.func92,Tryz.ntmps92
 go_wp2
 go_loop [5] (fun i=>∃ k:Nat,(k:Int)<=n/\i=I (1+2 * k)/\findIn xs name n.toNat 0=findIn xs name (n.toNat - k) k) (fun i=>20 - (intOf i).toNat)
 case atStart=>exact ⟨0,by omega,rfl,rfl⟩
 case round =>
  obtain ⟨k,hk,rfl,hf⟩:=hrel;have HF:Hid (findIn xs name n.toNat 0=findIn xs name (n.toNat - k) k):=hf;clear hf;by_cases hlt:(k:Int) < n
  ·have hc:=H3.o (1+2 * k) (by omega);go_wp2
   ·go_ret
    exact ⟨zer (by rw [HF.o,zjM hlt (by rw [List.getD_eq_getElem?_getD]; assumption)]; omega),rfl⟩
   ·go_round
    case rel=>exact ⟨k+1,by omega,by go_num,by rw [HF.o,ziL hlt (by rw [List.getD_eq_getElem?_getD]; assumption)]⟩
    case measure=>simp [intOf]; omega
  ·go_wp2
   go_ret
   exact ⟨zer (by rw [HF.o,zko (by omega)]),rfl⟩

open Go.RowKit Go.Mk

theorem zlv (u v:Value) (xs ys:List Int) (w:World) (hu:zby w u xs) (hv:zby w v ys) :
  Calls Tryz.prog 47 #[u,v] w fun e w'=>e=.returned (.bool (decide (xs=ys)))/\∃ n,w'=w.drewN n:=by
 obtain ⟨ao,cap,rfl,h1,h2,h3⟩:=hu.form;obtain ⟨bo,cap',rfl,g1,g2,g3⟩:=hv.form;unfold maxLen at h2 g2;clear hu hv;by_cases hl:xs.length=ys.length
 ·have hne:(((xs.length:Int)) != (ys.length:Int))=false:=by rw [bne_eq_false_iff_eq]; omega
  have HL:Hid (xs.length=ys.length):=hl;clear hl;go_enter Tryz.func47,Tryz.ntmps47
  go_wp2
  go_loopw [13] (fun i wr=>∃ k:Nat,k<=xs.length/\i=I k/\xs.take k=ys.take k/\∃ n,wr=w.drewN n) (fun i _=>xs.length - (intOf i).toNat)
  case atStart=>exact ⟨0,by omega,rfl,rfl,0,rfl⟩
  case round =>
   obtain ⟨k,hk,rfl,hf,n,rfl⟩:=hrel;have HF:Hid (xs.take k=ys.take k):=hf;clear hf;by_cases hlt:k < xs.length
   ·have hlt':k < ys.length:=by have:=HL.o; omega
    obtain ⟨b,off,rfl,hc⟩:=h3 k hlt;obtain ⟨b',off',rfl,hc'⟩:=g3 k hlt';clear h3 g3;generalize hX:xs.getD k 0=x at hc;generalize hY:ys.getD k 0=y at hc';have HX:Hid (xs[k]?=some x):=by unfold Hid; rw [<- hX]; simp [hlt]
    have HY:Hid (ys[k]?=some y):=by unfold Hid; rw [<- hY]; simp [hlt']
    clear hX hY;have b1:(0:Int)<=(k:Int):=by omega
    have b2:(k:Int) < (xs.length:Int):=by omega
    have b3:(k:Int) < (ys.length:Int):=by omega
    by_cases hxy:x=y
    ·have hb:(x != y)=false:=by simp [hxy]
     have HXY:Hid (x=y):=hxy;clear hxy;go_wp2_with fail
     go_quiet (fail)
     go_wp2
     go_roundw
     case rel=>exact ⟨k+1,by omega,by go_num,by rw [List.take_add_one,List.take_add_one,HF.o,HX.o,HY.o,HXY.o],_,rfl⟩
     case measure=>simp [intOf]; omega
    ·have hb:(x != y)=true:=by simpa using hxy
     have HXY:Hid (x≠y):=hxy;clear hxy;go_wp2_with fail
     go_quiet (fail)
     go_wp2
     go_ret
     refine ⟨zcB ?_,_,World.drewN_drewN _ _ _⟩;symm;rw [decide_eq_false_iff_not];intro e;have h:=HX.o;rw [e,HY.o] at h;exact HXY.o (Option.some.inj h).symm
   ·go_wp2
    go_ret
    refine ⟨zcB ?_,_,rfl⟩;symm;rw [decide_eq_true_eq];have h:=HF.o;rwa [List.take_of_length_le (by omega),List.take_of_length_le (by have:=HL.o; omega)] at h
 ·have hne:(((xs.length:Int)) != (ys.length:Int))=true:=by rw [bne_iff_ne]; omega
  go_enter Tryz.func47,Tryz.ntmps47
  go_wp2
  go_ret
  refine ⟨zcB ?_,0,rfl⟩;symm;rw [decide_eq_false_iff_not];intro e;exact hl (by rw [e])

open Go.RowKit Go.Mk

theorem zkt (v u:Value) (xs:List Int) (l:List (Int×Int)) (w:World) (hv:zby w v xs) (hu:zax w u l) (hr:xs.length * 8<=140737488355328) (hr2:l.length * 16<=140737488355328) :
  zaT Tryz.prog 88 #[v,u] w fun r w'=>∃ n,w'.ownsRow w.heap.size 3 1 r n ((zaD xs l).map I):=by
 unfold zaT;obtain ⟨i0,hi,hz0,hz1,hz2⟩:=info_parts Tryz.infoInt;obtain ⟨ao,cap,rfl,h1,h2,h3⟩:=hv.form;obtain ⟨bo,cap',rfl,g1,g2,g3⟩:=hu.form;unfold maxLen at h2 g2;clear hv hu;go_enter Tryz.func88,Tryz.ntmps88
 go_wp2
 go_loopw [5,12] (fun o i wr=>∃ k:Nat,k<=xs.length/\i=I k/\wr.ownsRow w.heap.size 3 1 o k (((zaD xs l).take k).map I)/\Ext w wr) (fun _ i _=>xs.length - (intOf i).toNat)
 case atStart=>exact ⟨0,by omega,rfl,World.ownsRow_nil _ _ _ _,Ext.refl _⟩
 case round =>
  obtain ⟨k,hk,rfl,hout,he⟩:=hrel;by_cases hlt:k < xs.length
  ·obtain ⟨b,off,rfl,hc⟩:=h3 k hlt;have hd:=he.cell hc;clear hc h3;have HT:Hid ((zaD xs l).take (k+1)=(zaD xs l).take k++[lastAt l k (xs.getD k 0)]):=zno xs l k hlt;generalize xs.getD k 0=x at hd HT;go_wp2
   go_loopw [7,19] (fun n j wr=>∃ m:Nat,m<=l.length/\j=I m/\n=I (lastAt (l.take m) k x)/\wr.ownsRow w.heap.size 3 1 u5 k (((zaD xs l).take k).map I)/\Ext w wr) (fun _ j _=>l.length - (intOf j).toNat)
   case atStart=>exact ⟨0,by omega,rfl,rfl,hout,he⟩
   case round =>
    obtain ⟨m,hm,rfl,rfl,hout',he'⟩:=hrel;clear hout he hd;by_cases hml:m < l.length
    ·obtain ⟨b',off',rfl,hc1,hc2⟩:=g3 m hml;have hd1:=he'.cell hc1;have hd2:=he'.cell hc2;clear hc1 hc2 g3;generalize hp:l.getD m (0,0)=p at hd1 hd2;have HP:Hid (l[m]?=some p):=by unfold Hid; rw [<- hp]; simp [hml]
     clear hp;obtain ⟨at_,n⟩:=p
     have HL:Hid (lastAt (l.take (m+1)) k x=if at_=(k:Int) then n else lastAt (l.take m) k x):=by
      unfold Hid; rw [List.take_add_one,HP.o]; exact znm _ _ _ _
     generalize lastAt (l.take m) k x=y at HL;simp only [] at hd1 hd2;by_cases hat:at_=(k:Int)
     ·have hb:(at_ == (k:Int))=true:=by simp [hat]
      have HA:Hid (at_=(k:Int)):=hat;clear hat;go_wp2
      go_roundw
      case rel=>exact ⟨m+1,by omega,by go_num,by rw [HL.o,if_pos HA.o],hout'.alloc _,he'.alloc _⟩
      case measure=>simp [intOf]; omega
     ·have hb:(at_ == (k:Int))=false:=by simpa using hat
      have HA:Hid (¬ at_=(k:Int)):=hat;clear hat;go_wp2
      go_roundw
      case rel=>exact ⟨m+1,by omega,by go_num,by rw [HL.o,if_neg HA.o],hout'.alloc _,he'.alloc _⟩
      case measure=>simp [intOf]; omega
    ·have e7:lastAt (l.take m) k x=lastAt l k x:=by rw [List.take_of_length_le (by omega)]
     rw [e7];clear g3 e7;generalize lastAt l k x=y at HT ⊢;have hsz:=he'.size;have hbl:=hout'.lt;go_wp2_with (at_builtin; refine zaA _ rfl _ _ 26 rfl w.heap.size 3 i0 (.int .i64 0) 1 8 zpg hi hz0 hz1 hz2 rfl (by decide) _ _ _ rfl (hout'.alloc _) _ rfl 1 [I y] (zrb (l:=[y]) _ _ 1 rfl rfl (by decide)) (zjv [y]) (by omega) (by decide) (by simp; omega) ?_; intro o' w3 ho hg)
     have he3:Ext w w3:=(he'.alloc _).grown hg (fun k hk=>(hbl k hk).1);clear hg;go_wp2
     go_roundw
     case rel =>
      refine ⟨k+1,by omega,by go_num,?_,he3⟩;rw [HT.o,List.map_append];exact ho
     case measure=>simp [intOf]; omega
  ·go_wp2
   go_ret
   rw [List.take_of_length_le (by rw [zb5]; omega)] at hout;exact ⟨_,rfl,he,_,hout⟩

theorem zjR (u v:Value) (xs ys:List (Int×Int)) (w:World) (hu:zax w u xs) (hv:zax w v ys) :
  Calls Tryz.prog 48 #[u,v] w fun e w'=>e=.returned (.bool (decide (xs=ys)))/\∃ n,w'=w.drewN n:=by
 obtain ⟨ao,cap,rfl,h1,h2,h3⟩:=hu.form;obtain ⟨bo,cap',rfl,g1,g2,g3⟩:=hv.form;unfold maxLen at h2 g2;clear hu hv;by_cases hl:xs.length=ys.length
 ·have hne:(((xs.length:Int)) != (ys.length:Int))=false:=by rw [bne_eq_false_iff_eq]; omega
  have HL:Hid (xs.length=ys.length):=hl;clear hl;go_enter Tryz.func48,Tryz.ntmps48
  go_wp2
  go_loopw [13] (fun i wr=>∃ k:Nat,k<=xs.length/\i=I k/\xs.take k=ys.take k/\∃ n,wr=w.drewN n) (fun i _=>xs.length - (intOf i).toNat)
  case atStart=>exact ⟨0,by omega,rfl,rfl,0,rfl⟩
  case round =>
   obtain ⟨k,hk,rfl,hf,n,rfl⟩:=hrel;have HF:Hid (xs.take k=ys.take k):=hf;clear hf;by_cases hlt:k < xs.length
   ·have hlt':k < ys.length:=by have:=HL.o; omega
    obtain ⟨b,off,rfl,hc,hd⟩:=h3 k hlt;obtain ⟨b',off',rfl,hc',hd'⟩:=g3 k hlt';clear h3 g3;generalize hX:xs.getD k (0,0)=x at hc hd;generalize hY:ys.getD k (0,0)=y at hc' hd';have HX:Hid (xs[k]?=some x):=by unfold Hid; rw [<- hX]; simp [hlt]
    have HY:Hid (ys[k]?=some y):=by unfold Hid; rw [<- hY]; simp [hlt']
    clear hX hY;obtain ⟨x1,x2⟩:=x;obtain ⟨y1,y2⟩:=y;simp only [] at hc hd hc' hd';have b1:(0:Int)<=(k:Int):=by omega
    have b2:(k:Int) < (xs.length:Int):=by omega
    have b3:(k:Int) < (ys.length:Int):=by omega
    have hst:Tryz.prog.stoodInHeld 111=false:=by kernel_rfl
    have hgd:Tryz.prog.eqGuardType Tryz.prog.depth 111=false:=by kernel_rfl
    by_cases hx:x1=y1
    ·have hb1:(x1 == y1)=true:=by simp [hx]
     have HX1:Hid (x1=y1):=hx;clear hx;by_cases hy:x2=y2
     ·have hb2:(x2 == y2)=true:=by simp [hy]
      have HX2:Hid (x2=y2):=hy;clear hy;go_wp2_with fail
      go_quiet (fail)
      go_wp2
      go_roundw
      case rel=>exact ⟨k+1,by omega,by go_num,by rw [List.take_add_one,List.take_add_one,HF.o,HX.o,HY.o,HX1.o,HX2.o],_,rfl⟩
      case measure=>simp [intOf]; omega
     ·have hb2:(x2 == y2)=false:=by simpa using hy
      have HX2:Hid (x2≠y2):=hy;clear hy;go_wp2_with fail
      go_quiet (fail)
      go_wp2
      go_ret
      refine ⟨zcB ?_,_,World.drewN_drewN _ _ _⟩;symm;rw [decide_eq_false_iff_not];intro e;have h:=HX.o;rw [e,HY.o] at h;simp only [Option.some.injEq,Prod.mk.injEq] at h;exact HX2.o h.2.symm
    ·have hb1:(x1 == y1)=false:=by simpa using hx
     have HX1:Hid (x1≠y1):=hx;clear hx;go_wp2_with fail
     go_quiet (fail)
     go_wp2
     go_ret
     refine ⟨zcB ?_,_,World.drewN_drewN _ _ _⟩;symm;rw [decide_eq_false_iff_not];intro e;have h:=HX.o;rw [e,HY.o] at h;simp only [Option.some.injEq,Prod.mk.injEq] at h;exact HX1.o h.1.symm
   ·go_wp2
    go_ret
    refine ⟨zcB ?_,_,rfl⟩;symm;rw [decide_eq_true_eq];have h:=HF.o;rwa [List.take_of_length_le (by omega),List.take_of_length_le (by have:=HL.o; omega)] at h
 ·have hne:(((xs.length:Int)) != (ys.length:Int))=true:=by rw [bne_iff_ne]; omega
  go_enter Tryz.func48,Tryz.ntmps48
  go_wp2
  go_ret
  refine ⟨zcB ?_,0,rfl⟩;symm;rw [decide_eq_false_iff_not];intro e;exact hl (by rw [e])

open Go.RowKit Go.Mk

theorem znt {u v:Value} {xs ys:List Int} {w:World} (e:xs=ys) (hu:zby w u xs) (hv:zby w v ys):zaT Tryz.prog 47 #[u,v] w fun r _=>r=.bool true:=by
 have:=ziQ (zlv u v xs ys w hu hv)
 rwa [decide_eq_true e] at this

theorem zhy {u v:Value} {xs ys:List (Int×Int)} {w:World} (e:xs=ys) (hu:zax w u xs) (hv:zax w v ys):zaT Tryz.prog 48 #[u,v] w fun r _=>r=.bool true:=by
 have:=ziQ (zjR u v xs ys w hu hv)
 rwa [decide_eq_true e] at this

open Go.RowKit Go.Mk

theorem znO (xs:List Int) (l:List (Int×Int)) (p:Int×Int):zaD (zaD xs l) [p]=zaD xs (l++[p]):=by
 rw [zgB]
 rfl

open Go.RowKit Go.Mk

theorem zb4 {w:World} {b:Nat} {t:TypeId} {u v x y:Value} (h:w.heap[b]?=some (.cells #[u,v,x,y] t (0,0))) :
  w.cell? ⟨b,0,none⟩=some u/\w.cell? ⟨b,1,none⟩=some v/\w.cell? ⟨b,2,none⟩=some x/\w.cell? ⟨b,3,none⟩=some y/\w.frozen? ⟨b,0,none⟩=false/\w.frozen? ⟨b,1,none⟩=false/\w.frozen? ⟨b,2,none⟩=false/\w.frozen? ⟨b,3,none⟩=false :=
 ⟨zaW h rfl,zaW h rfl,zaW h rfl,zaW h rfl,zbt h,zbt h,zbt h,zbt h⟩

theorem zb2 {a w:World} {b:Nat} {o:Obj} (h:a.heap[b]?=some o) (e:Ext a w):w.heap[b]?=some o:=by
 rw [e.block b (Array.getElem?_eq_some_iff.1 h).1]; exact h

theorem set4 {w:World} {b:Nat} {t:TypeId} {p q r s:Value} (h:w.heap[b]?=some (.cells #[p,q,r,s] t (0,0))) (u v x y:Value) :
  ((((w.setCell ⟨b,0,none⟩ u).setCell ⟨b,1,none⟩ v).setCell ⟨b,2,none⟩ x).setCell ⟨b,3,none⟩ y).heap[b]?=some (.cells #[u,v,x,y] t (0,0)):=by
 have h1:=heap_setCell_same _ _ 0 _ _ u h
 have h2:=heap_setCell_same _ _ 1 _ _ v h1
 have h3:=heap_setCell_same _ _ 2 _ _ x h2
 have h4:=heap_setCell_same _ _ 3 _ _ y h3
 simpa using h4
theorem zcj {a w:World} (h:Ext a w) {b:Nat} (hb:a.heap.size<=b) (u v x y:Value):Ext a ((((w.setCell ⟨b,0,none⟩ u).setCell ⟨b,1,none⟩ v).setCell ⟨b,2,none⟩ x).setCell ⟨b,3,none⟩ y) :=
 (((h.setCell hb u).setCell hb v).setCell hb x).setCell hb y
theorem zc8 {w w2:World} {o o':Obj} (e:Ext ((w.alloc o).alloc o') w2):w2.heap[w.heap.size]?=some o:=by
 refine zb2 ?_ e
 exact zb2 (heap_alloc_new w o) ((Ext.refl _).alloc o')

theorem zcD {w w2:World} {o o':Obj} (e:Ext ((w.alloc o).alloc o') w2):w2.heap[w.heap.size+1]?=some o':=by
 refine zb2 ?_ e
 have:=heap_alloc_new (w.alloc o) o'
 simpa using this

theorem box6 {w:World} {b:Nat} {t:TypeId} {x0 x1 x2 x3 x4 x5:Value} (h:w.heap[b]?=some (.cells #[x0,x1,x2,x3,x4,x5] t (0,0))) :
  (w.cell? ⟨b,0,none⟩=some x0/\w.cell? ⟨b,1,none⟩=some x1/\w.cell? ⟨b,2,none⟩=some x2/\w.cell? ⟨b,3,none⟩=some x3/\w.cell? ⟨b,4,none⟩=some x4/\w.cell? ⟨b,5,none⟩=some x5) /\
   w.frozen? ⟨b,0,none⟩=false/\w.frozen? ⟨b,1,none⟩=false/\w.frozen? ⟨b,2,none⟩=false/\w.frozen? ⟨b,3,none⟩=false/\w.frozen? ⟨b,4,none⟩=false/\w.frozen? ⟨b,5,none⟩=false :=
 ⟨⟨zaW h rfl,zaW h rfl,zaW h rfl,zaW h rfl,zaW h rfl,zaW h rfl⟩,zbt h,zbt h,zbt h,zbt h,zbt h,zbt h⟩

theorem zpx {w:World} {b:Nat} {t:TypeId} {p0 p1 p2 p3 p4 p5:Value} (h:w.heap[b]?=some (.cells #[p0,p1,p2,p3,p4,p5] t (0,0))) (x0 x1 x2 x3 x4 x5:Value) :
  ((((((w.setCell ⟨b,0,none⟩ x0).setCell ⟨b,1,none⟩ x1).setCell ⟨b,2,none⟩ x2).setCell ⟨b,3,none⟩ x3).setCell ⟨b,4,none⟩ x4).setCell ⟨b,5,none⟩ x5).heap[b]?=some (.cells #[x0,x1,x2,x3,x4,x5] t (0,0)):=by
 have h1:=heap_setCell_same _ _ 0 _ _ x0 h
 have h2:=heap_setCell_same _ _ 1 _ _ x1 h1
 have h3:=heap_setCell_same _ _ 2 _ _ x2 h2
 have h4:=heap_setCell_same _ _ 3 _ _ x3 h3
 have h5:=heap_setCell_same _ _ 4 _ _ x4 h4
 have h6:=heap_setCell_same _ _ 5 _ _ x5 h5
 simpa using h6

theorem zfQ {a w:World} (h:Ext a w) {b:Nat} (hb:a.heap.size<=b) (x0 x1 x2 x3 x4 x5:Value) :
  Ext a ((((((w.setCell ⟨b,0,none⟩ x0).setCell ⟨b,1,none⟩ x1).setCell ⟨b,2,none⟩ x2).setCell ⟨b,3,none⟩ x3).setCell ⟨b,4,none⟩ x4).setCell ⟨b,5,none⟩ x5) :=
 (((((h.setCell hb x0).setCell hb x1).setCell hb x2).setCell hb x3).setCell hb x4).setCell hb x5

theorem box2 {w:World} {b:Nat} {t:TypeId} {u v:Value} (h:w.heap[b]?=some (.cells #[u,v] t (0,0))):w.cell? ⟨b,0,none⟩=some u/\w.cell? ⟨b,1,none⟩=some v/\w.frozen? ⟨b,0,none⟩=false/\w.frozen? ⟨b,1,none⟩=false :=
 ⟨zaW h rfl,zaW h rfl,zbt h,zbt h⟩
theorem ztx {w:World} {b:Nat} {t:TypeId} {p q:Value} (h:w.heap[b]?=some (.cells #[p,q] t (0,0))) (u v:Value):((w.setCell ⟨b,0,none⟩ u).setCell ⟨b,1,none⟩ v).heap[b]?=some (.cells #[u,v] t (0,0)):=by
 have h1:=heap_setCell_same _ _ 0 _ _ u h
 have h2:=heap_setCell_same _ _ 1 _ _ v h1
 simpa using h2
theorem zqW {a w:World} (h:Ext a w) {b:Nat} (hb:a.heap.size<=b) (u v:Value):Ext a ((w.setCell ⟨b,0,none⟩ u).setCell ⟨b,1,none⟩ v):=(h.setCell hb u).setCell hb v

theorem zcP {w:World} {b b' i:Nat} {x:Value} {o:Obj} (h:w.heap[b]?=some o) (hne:b≠b'):(w.setCell ⟨b',i,none⟩ x).heap[b]?=some o:=by
 rw [Below.heap_setCell w _ x b hne]
 exact h

def zfC (base:Nat) (t:TypeId) (cs:Array Value) (v:Value) (w:World):Prop:=∃ b,v=.pointer (some ⟨b,0,none⟩)/\base<=b/\w.heap[b]?=some (.cells cs t (0,0))

theorem zd9 (base:Nat) (t:TypeId) (cs:Array Value):∀ v,zcJ (zfC base t cs v):=fun _ _ _ he ⟨b,e,h1,h2⟩=>⟨b,e,h1,by rw [he.block b (Array.getElem?_eq_some_iff.1 h2).1]; exact h2⟩

theorem zea {w:World} {base:Nat} {t:TypeId} {cs:Array Value} (h:base<=w.heap.size):zfC base t cs (.pointer (some ⟨w.heap.size,0,none⟩)) (w.alloc (.cells cs t)):=⟨_,rfl,h,heap_alloc_new _ _⟩

open Go.RowKit Go.Mk

theorem zkH (v u:Value) (xs:List Int) (l:List (Int×Int)) (w:World) (A:Nat->Prop) (hv:Rd A (fun w=>zby w v xs) w) (hu:zax w u l) (hr:xs.length * 8<=140737488355328) :
  zaK Tryz.prog 79 #[v,u] w A fun r w'=>zby w' r (zaD xs l):=by
 unfold zaK;obtain ⟨bo,cap',rfl,g1,g2,g3⟩:=hu.form;unfold maxLen at g2;clear hu;go_enter Tryz.func79,Tryz.ntmps79
 go_wp2
 go_loopw [0,9] (fun cv i wr=>∃ k:Nat,k<=l.length/\i=I k/\Rd (fun k=>A k∨w.heap.size<=k) (fun w=>zby w cv (zaD xs (l.take k))) wr/\Ext w wr) (fun _ i _=>l.length - (intOf i).toNat)
 case atStart=>exact ⟨0,by omega,rfl,hv.widen (fun _ _ h=>.inl h),Ext.refl _⟩
 case round =>
  obtain ⟨k,hk,rfl,hc,he⟩:=hrel;clear hv;by_cases hlt:k < l.length
  ·obtain ⟨b,off,rfl,c1,c2⟩:=g3 k hlt;replace c1:=he.cell c1;replace c2:=he.cell c2
   have HT:Hid (zaD xs (l.take (k+1))=zaD (zaD xs (l.take k)) [l.getD k (0,0)]):=by
    unfold Hid;rw [znO,List.take_add_one,List.getElem?_eq_getElem hlt,List.getD_eq_getElem?_getD,List.getElem?_eq_getElem hlt];rfl
   generalize l.getD k (0,0)=p at *;obtain ⟨p1,p2⟩:=p;simp only [] at c1 c2;have hlen:(zaD xs (l.take k)).length * 8<=140737488355328:=by rw [zb5]; exact hr
   generalize zaD xs (l.take k)=ys at *;clear g3;have hws:=he.size;go_wp2_with fail
   refine (zkt u0 _ ys [(p1,p2)] _ (hc.o.ext (((Ext.refl wr).alloc _).alloc _)) (zeD _ _ [(p1,p2)] _ 1 rfl rfl (by decide)) hlen (by simp)).to fun r w2 he2 ⟨n2,ho2⟩=>?_;have hr2:=(zeb ho2).widen (B:=fun k=>A k∨w.heap.size<=k) (fun j _ h=>.inr (by simp at h; omega));clear c1 c2 ho2;go_wp2
   go_roundw
   case rel=>exact ⟨k+1,by omega,by go_num,by rw [HT.o]; exact hr2,he.trans ((((Ext.refl wr).alloc _).alloc _).trans he2)⟩
   case measure=>simp [intOf]; omega
  ·go_wp2
   go_ret
   rw [List.take_of_length_le (by omega)] at hc;exact ⟨_,rfl,he,hc⟩

theorem zkK (c u a p:Value) (s:St) (w:World) (A:Nat->Prop) (h:Rd A (fun w=>zcn w [c,u,a,p] s) w) (hr:s.cells.length * 8<=140737488355328) :
  zaK Tryz.prog 51 #[.agg #[c,u,a,p]] w A (fun r w'=>Agg zcn (zbF s) r w'):=by
 unfold zaK;obtain ⟨_,_,_,_,e,h1,h2,h3,h4⟩:=zez h;simp at e;obtain ⟨rfl,rfl,rfl,rfl⟩:=e;clear h;obtain ⟨ua,uc,rfl⟩:=zao h2.o;obtain ⟨aa,ac,rfl⟩:=zag h3.o;obtain ⟨pa,pc,rfl⟩:=zag h4.o;generalize hu:Value.slice ua s.undo.length uc=u at *;generalize ha:Value.slice aa s.answers.length ac=a at *;generalize hp:Value.slice pa s.past.length pc=p at *;have HU:=zhd hu;have HAA:=zhd ha;have HP:=zhd hp;clear hu ha hp;obtain ⟨B,hB⟩:=zdF A w.heap.size 2;have HK:=zhd hB;clear hB;have e0:Ext w ((w.alloc (.cells #[c,u,a,p] 31)).alloc (.cells zT4 31)):=((Ext.refl w).alloc _).alloc _;have HB:Hid (∀ wx,Ext ((w.alloc (.cells #[c,u,a,p] 31)).alloc (.cells zT4 31)) wx->wx.heap[w.heap.size]?=some (.cells #[c,u,a,p] 31 (0,0))/\wx.heap[w.heap.size+1]?=some (.cells zT4 31 (0,0))):=fun wx hx=>⟨zc8 hx,zcD hx⟩;have hsz:((w.alloc (.cells #[c,u,a,p] 31)).alloc (.cells zT4 31)).heap.size=w.heap.size+2:=by simp
 replace h1:=(h1.widen HK.o.1).ext e0;replace h2:=(h2.widen HK.o.1).ext e0;replace h3:=(h3.widen HK.o.1).ext e0;replace h4:=(h4.widen HK.o.1).ext e0;go_enter Tryz.func51,Tryz.ntmps51
 go_wp2_with fail
 generalize hw0:(w.alloc (.cells #[c,u,a,p] 31)).alloc (.cells zT4 31)=w0 at *;clear hw0;refine (zkH c u _ _ w0 B h1 h2.o hr).to fun r w1 e1 hr1=>?_;replace hr1:=hr1.widen (B:=B) (fun k _ h=>by rcases h with h | h; exact h; exact HK.o.2.1 k (by omega));replace h3:=h3.ext e1;replace h4:=h4.ext e1;obtain ⟨ra,rc,hrs⟩:=zao hr1.o;subst hrs;have hu:=HU.o;have ha:=HAA.o;have hp:=HP.o;subst hu ha hp;obtain ⟨b0,b1⟩:=HB.o w1 e1;obtain ⟨x0,x1,x2,x3,f0,f1,f2,f3⟩:=zb4 b0;obtain ⟨y0,y1,y2,y3,g0,g1,g2,g3⟩:=zb4 b1;clear hsz;have H1:=zhd hr1;have H3:=zhd h3;have H4:=zhd h4;clear hr1 h3 h4 h1 h2;go_wp2_with fail
 clear x0 x1 x2 x3 f0 f1 f2 f3 y0 y1 y2 y3 g0 g1 g2 g3;have b2:=set4 (zcP (i:=1) (x:=.slice none 0 0) (zcP (i:=0) (x:=.slice ra (zaD s.cells s.undo).length rc) b1 (Nat.succ_ne_self w.heap.size)) (Nat.succ_ne_self w.heap.size)) (.slice ra (zaD s.cells s.undo).length rc) (.slice none 0 0) (.slice aa s.answers.length ac) (.slice pa s.past.length pc);obtain ⟨q0,q1,q2,q3,-⟩:=zb4 b2;have n0:¬ B w.heap.size:=HK.o.2.2.1 _ (Nat.le_refl _) (by omega);have n1:¬ B (w.heap.size+1):=HK.o.2.2.1 _ (by omega) (by omega);have m1:Ext w w1:=e0.trans e1;have m2:=zcj ((m1.setCell (p:=⟨w.heap.size,0,none⟩) (Nat.le_refl _) (.slice ra (zaD s.cells s.undo).length rc)).setCell (p:=⟨w.heap.size,1,none⟩) (Nat.le_refl _) (.slice none 0 0)) (b:=w.heap.size+1) (by omega) (.slice ra (zaD s.cells s.undo).length rc) (.slice none 0 0) (.slice aa s.answers.length ac) (.slice pa s.past.length pc);refine bodyPost_ret (by simp [results,Tryz.results51,go_sem,q0,q1,q2,q3]; rfl) rfl ?_;refine ⟨_,rfl,m2,Rd.widen (A:=B) (zca (zdJ (s:=zbF s) ?_ ?_ ?_ ?_)) (fun k _ h=>HK.o.2.2.2 k h)⟩
 ·exact (((((H1.o.set n0 _ _).set n0 _ _).set n1 _ _).set n1 _ _).set n1 _ _).set n1 _ _
 ·exact Rd.all fun w=>zbu w
 ·exact (((((H3.o.set n0 _ _).set n0 _ _).set n1 _ _).set n1 _ _).set n1 _ _).set n1 _ _
 ·exact (((((H4.o.set n0 _ _).set n0 _ _).set n1 _ _).set n1 _ _).set n1 _ _).set n1 _ _

open Go.RowKit Go.Mk

theorem zfr {w wx:World} {o1 o2 o3:Obj} (h:Ext (((w.alloc o1).alloc o2).alloc o3) wx):wx.heap[w.heap.size]?=some o1/\wx.heap[w.heap.size+1]?=some o2/\wx.heap[w.heap.size+1+1]?=some o3:=by
 have h2:Ext ((w.alloc o1).alloc o2) wx:=((Ext.refl _).alloc o3).trans h
 refine ⟨zc8 h2,zcD h2,?_⟩
 have:=zbo h
 simpa using this

theorem zo4 {s:St} {x y:Int} (h:¬ (0<=x/\x < (s.cells.length:Int))):zau s (x,y)=s:=if_neg h
theorem zqH {s:St} {j:Nat} {y:Int} (h:j < s.cells.length):zau s ((j:Int),y)={ s with cells:=zaD s.cells [((j:Int),y)],undo:=((j:Int),s.cells.getD j 0)::s.undo }:=by
 unfold zau
 rw [if_pos ⟨by omega,by simp only []; omega⟩]
 rfl

theorem zmm (c u a p:Value) (s:St) (x y:Int) (w:World) (A:Nat->Prop) (h:Rd A (fun w=>zcn w [c,u,a,p] s) w) (hx:¬ (0<=x/\x < (s.cells.length:Int))) :
  zaK Tryz.prog 61 #[.agg #[c,u,a,p],.agg #[I x,I y]] w A (fun r w'=>Agg zcn (zau s (x,y)) r w'):=by
 rw [zo4 hx];unfold zaK;obtain ⟨_,_,_,_,e,h1,h2,h3,h4⟩:=zez h;simp at e;obtain ⟨rfl,rfl,rfl,rfl⟩:=e;clear h;obtain ⟨ca,cc,rfl⟩:=zao h1.o;obtain ⟨ua,uc,rfl⟩:=zao h2.o;obtain ⟨aa,ac,rfl⟩:=zag h3.o;obtain ⟨pa,pc,rfl⟩:=zag h4.o;generalize hc:Value.slice ca s.cells.length cc=c at *;generalize hu:Value.slice ua s.undo.length uc=u at *;generalize ha:Value.slice aa s.answers.length ac=a at *;generalize hp:Value.slice pa s.past.length pc=p at *;have HC:=zhd hc;have HU:=zhd hu;have HAA:=zhd ha;have HP:=zhd hp;clear hc hu ha hp;have H1:=zhd h1;have H2:=zhd h2;have H3:=zhd h3;have H4:=zhd h4;clear h1 h2 h3 h4;generalize hn:s.cells.length=n at *;clear hn;have hc:=HC.o;have hu:=HU.o;have ha:=HAA.o;have hp:=HP.o;subst hc hu ha hp;by_cases h0:0<=x
 ·have hxn:¬ (x < (n:Int)):=fun h=>hx ⟨h0,h⟩;clear hx;go_enter Tryz.func61,Tryz.ntmps61
  go_wp2
  refine bodyPost_ret (by simp [results,Tryz.results61,go_sem]; rfl) rfl ?_;exact ⟨_,rfl,(((Ext.refl w).alloc _).alloc _).alloc _,((zca (zdJ H1.o H2.o H3.o H4.o)).ext ((((Ext.refl w).alloc _).alloc _).alloc _)).widen (fun _ _ h=>.inl h)⟩
 ·clear hx;go_enter Tryz.func61,Tryz.ntmps61
  go_wp2
  refine bodyPost_ret (by simp [results,Tryz.results61,go_sem]; rfl) rfl ?_;exact ⟨_,rfl,(((Ext.refl w).alloc _).alloc _).alloc _,((zca (zdJ H1.o H2.o H3.o H4.o)).ext ((((Ext.refl w).alloc _).alloc _).alloc _)).widen (fun _ _ h=>.inl h)⟩

theorem zmQ (c u a p:Value) (s:St) (j:Nat) (y:Int) (w:World) (A:Nat->Prop) (h:Rd A (fun w=>zcn w [c,u,a,p] s) w) (hj:j < s.cells.length) (hr:s.cells.length * 8<=140737488355328) (hr2:(1+s.undo.length) * 16<=140737488355328) :
  zaK Tryz.prog 61 #[.agg #[c,u,a,p],.agg #[I j,I y]] w A (fun r w'=>Agg zcn (zau s ((j:Int),y)) r w'):=by
 rw [zqH hj];unfold zaK;obtain ⟨_,_,_,_,e,h1,h2,h3,h4⟩:=zez h;simp at e;obtain ⟨rfl,rfl,rfl,rfl⟩:=e;clear h;obtain ⟨ca,cc,rfl⟩:=zao h1.o;obtain ⟨ua,uc,rfl⟩:=zao h2.o;obtain ⟨aa,ac,rfl⟩:=zag h3.o;obtain ⟨pa,pc,rfl⟩:=zag h4.o;generalize hc:Value.slice ca s.cells.length cc=c at *;generalize hu:Value.slice ua s.undo.length uc=u at *;generalize ha:Value.slice aa s.answers.length ac=a at *;generalize hp:Value.slice pa s.past.length pc=p at *;have HC:=zhd hc;have HU:=zhd hu;have HAA:=zhd ha;have HP:=zhd hp;clear hc hu ha hp;obtain ⟨B,hB⟩:=zdF A w.heap.size 3;have HK:=zhd hB;clear hB;have e0:Ext w (((w.alloc (.cells #[c,u,a,p] 31)).alloc (.cells #[I j,I y] 111)).alloc (.cells zT4 31)):=(((Ext.refl w).alloc _).alloc _).alloc _;have HB:=zhd (fun wx (h:Ext (((w.alloc (.cells #[c,u,a,p] 31)).alloc (.cells #[I j,I y] 111)).alloc (.cells zT4 31)) wx)=>zfr h);have hsz:(((w.alloc (.cells #[c,u,a,p] 31)).alloc (.cells #[I j,I y] 111)).alloc (.cells zT4 31)).heap.size=w.heap.size+3:=by simp
 have HSZ:=zhd hsz;clear hsz;replace h1:=(h1.widen HK.o.1).ext e0;replace h2:=(h2.widen HK.o.1).ext e0;replace h3:=(h3.widen HK.o.1).ext e0;replace h4:=(h4.widen HK.o.1).ext e0;have H1:=zhd h1;have H2:=zhd h2;have H3:=zhd h3;have H4:=zhd h4;clear h1 h2 h3 h4;have HR:=zhd hr;have HR2:=zhd hr2;clear hr hr2;have hc:=HC.o;have hu:=HU.o;have ha:=HAA.o;have hp:=HP.o;subst hc hu ha hp;go_enter Tryz.func61,Tryz.ntmps61
 have hjn:(j:Int) < (s.cells.length:Int):=by omega
 have hj0:(0:Int)<=(j:Int):=by omega
 go_wp2_with fail
 generalize hw0:((w.alloc (.cells #[.slice ca s.cells.length cc,.slice ua s.undo.length uc,.slice aa s.answers.length ac,.slice pa s.past.length pc] 31)).alloc (.cells #[I j,I y] 111)).alloc (.cells zT4 31)=w0 at *;clear hw0;obtain ⟨b0,b1,-⟩:=HB.o w0 (Ext.refl _);obtain ⟨x0,x1,x2,x3,-⟩:=zb4 b0;obtain ⟨y0,y1,-⟩:=box2 b1;obtain ⟨_,cap',he,-,-,hcell⟩:=H1.o.o.form;simp at he;obtain ⟨rfl,rfl⟩:=he;obtain ⟨cb,co,rfl,hcj⟩:=hcell j hj;clear hcell b0 b1;generalize hold:s.cells.getD j 0=old at *;obtain ⟨i0,hi,hz0,hz1,hz2⟩:=info_parts Tryz.infoWrite;have HI:=zhd hi;clear hi;have hbs:w.heap.size+3=w0.heap.size:=HSZ.o.symm;refine zan 14 [none,none,none,none,none,none,none,none,none,some (.inr (zdr w0.heap.size 111 2 1 (zaB [((j:Int),old)]))),none,none,some (.inr fun v wx=>wx.ownsRow w0.heap.size 111 2 v (1+s.undo.length) (zaB (((j:Int),old)::s.undo))),none] (by kernel_rfl) (by kernel_rfl) ?_ ?_
 ·exact ⟨trivial,trivial,trivial,trivial,trivial,trivial,trivial,trivial,trivial,zgS _ _ _ _ _,trivial,trivial,zct _ _ _ _ _,trivial,trivial⟩
 (refine zap (fun K hK=>?_); go_simp; first | refine hK _ ?_ | refine ⟨(fun h=>by cases h),hK _ ?_⟩; clear hK K)
 refine zay (I j) rfl (fun w' hw'=>by have q0:=hw'.cell y0; go_simp) ?_;refine zai fun K h=>?_; go_simp; refine h _ ?_; clear h K;(refine zap (fun K hK=>?_); go_simp; first | refine hK _ ?_ | refine ⟨(fun h=>by cases h),hK _ ?_⟩; clear hK K)
 refine zay (.slice (some ⟨cb,co,none⟩) s.cells.length cc) rfl (fun w' hw'=>by have q0:=hw'.cell x0; go_simp) ?_;refine zai fun K h=>?_; go_simp; refine h _ ?_; clear h K;(refine zap (fun K hK=>?_); go_simp; first | refine hK _ ?_ | refine ⟨(fun h=>by cases h),hK _ ?_⟩; clear hK K)
 refine zay (I j) rfl (fun w' hw'=>by have q0:=hw'.cell y0; go_simp) ?_;refine zai fun K h=>?_; go_simp; refine h _ ?_; clear h K;(refine zap (fun K hK=>?_); go_simp; first | refine hK _ ?_ | refine ⟨(fun h=>by cases h),hK _ ?_⟩; clear hK K)
 refine zay (I old) rfl (fun w' hw'=>by have q0:=hw'.cell hcj; go_simp) ?_;refine zai fun K h=>?_; go_simp; refine h _ ?_; clear h K;(refine zap (fun K hK=>?_); go_simp; first | refine hK _ ?_ | refine ⟨(fun h=>by cases h),hK _ ?_⟩; clear hK K)
 refine zbb _ rfl (fun w' hw' hk=>?_) (fun v25=>?_)
 ·have hsz:=hw'.size;clear hk;unfold zaQ;go_simp
  exact ⟨(Ext.refl _).alloc _,zfM _ 1 hsz (by decide) rfl⟩
 refine zai fun K h=>?_; go_simp; refine h _ ?_; clear h K;(refine zap (fun K hK=>?_); go_simp; first | refine hK _ ?_ | refine ⟨(fun h=>by cases h),hK _ ?_⟩; clear hK K)
 refine zay ((.slice ua s.undo.length uc)) rfl (fun w' hw'=>by have q0:=hw'.cell x1; go_simp) ?_;refine zai fun K h=>?_; go_simp; refine h _ ?_; clear h K;refine zbb _ rfl (fun w' hw' hk=>?_) (fun v28=>?_)
 ·have h25:zdr w0.heap.size 111 2 1 (zaB [((j:Int),old)]) v25 w':=hk 25 (by decide);obtain ⟨v',w'',hrun,ho,he⟩:=zcf (P:=Tryz.prog) w' w0.heap.size 27 27 111 i0 _ 2 16 zfG HI.o hz0 hz1 hz2 rfl (by decide) v25 1 _ h25 (.slice ua s.undo.length uc) s.undo.length _ (H2.o.o.ext hw') (zbK _) HR2.o (by decide) hw'.size;exact zdc rfl rfl rfl hrun he (by rw [<- zbl] at ho; exact ho)
 refine zai fun K h=>?_; go_simp; refine h _ ?_; clear h K;(refine zap (fun K hK=>?_); go_simp; first | refine hK _ ?_ | refine ⟨(fun h=>by cases h),hK _ ?_⟩; clear hK K)
 refine zaP ?_;intro w1 e1 hX;have ho1:w1.ownsRow w0.heap.size 111 2 v28 (1+s.undo.length) (zaB (((j:Int),old)::s.undo)):=hX 28;clear hX x0 x1 x2 x3 y0 y1 hcj;have hq1:Rd B (fun w=>zax w v28 (((j:Int),old)::s.undo)) w1:=(zek ho1).widen (fun k _ h=>HK.o.2.1 k (by omega));obtain ⟨va,vc,hvs⟩:=zao hq1.o;subst hvs;have HQ1:=zhd hq1;clear hq1 ho1;obtain ⟨b0,b1,b2⟩:=HB.o w1 e1;obtain ⟨x0,x1,x2,x3,f0,f1,f2,f3⟩:=zb4 b0;obtain ⟨y0,y1,-⟩:=box2 b1;go_wp2_with fail
 clear x0 x1 x2 x3 f0 f1 f2 f3 y0 y1;have n0:¬ B w.heap.size:=HK.o.2.2.1 _ (Nat.le_refl _) (by omega);have n2:¬ B (w.heap.size+1+1):=HK.o.2.2.1 _ (by omega) (by omega);have m2:Ext w (w1.setCell ⟨w.heap.size,1,none⟩ (.slice va (s.undo.length+1) vc)):=(e0.trans e1).setCell (Nat.le_refl _) _;have k1:=(H1.o.ext e1).set n0 1 (.slice va (s.undo.length+1) vc);have k2:=HQ1.o.set n0 1 (.slice va (s.undo.length+1) vc);have k3:=(H3.o.ext e1).set n0 1 (.slice va (s.undo.length+1) vc);have k4:=(H4.o.ext e1).set n0 1 (.slice va (s.undo.length+1) vc)
 have c0:(w1.setCell ⟨w.heap.size,1,none⟩ (.slice va (s.undo.length+1) vc)).heap[w.heap.size]?=some (.cells #[.slice (some ⟨cb,co,none⟩) s.cells.length cc,.slice va (s.undo.length+1) vc,.slice aa s.answers.length ac,.slice pa s.past.length pc] 31 (0,0)):=by
  have:=heap_setCell_same _ _ 1 _ _ (.slice va (s.undo.length+1) vc) b0;simpa using this
 have c2:=zcP (i:=1) (x:=.slice va (s.undo.length+1) vc) b2 (show w.heap.size+1+1≠w.heap.size by omega);have hs2:(w1.setCell ⟨w.heap.size,1,none⟩ (.slice va (s.undo.length+1) vc)).heap.size=w1.heap.size:=by simp
 have hle:w0.heap.size<=w1.heap.size:=e1.size;have hlit:=zcY (w:=w1.setCell ⟨w.heap.size,1,none⟩ (.slice va (s.undo.length+1) vc)) 111 [((j:Int),y)] #[I j,I y] 1 rfl rfl (by decide);rw [hs2] at hlit;generalize hw2:w1.setCell ⟨w.heap.size,1,none⟩ (.slice va (s.undo.length+1) vc)=w2 at *;clear hw2 b0 b1 b2 e1;refine (zkt _ _ s.cells [((j:Int),y)] _ (k1.o.ext ((Ext.refl w2).alloc _)) hlit HR.o (by simp)).to fun r w4 e4 ⟨n4,ho4⟩=>?_;have k5:Rd B (fun w=>zby w r (zaD s.cells [((j:Int),y)])) w4:=(zeb ho4).widen (fun k _ h=>HK.o.2.1 k (by simp at h; omega));replace e4:=((Ext.refl w2).alloc (.cells #[I j,I y] 111)).trans e4;obtain ⟨ra,rc,hrs⟩:=zao k5.o;subst hrs;have K2:=zhd (k2.ext e4);have K3:=zhd (k3.ext e4);have K4:=zhd (k4.ext e4);have K5:=zhd k5;have d0:=zb2 c0 e4;have d2:=zb2 c2 e4;have m4:=m2.trans e4;clear k1 k2 k3 k4 k5 ho4 hlit hs2 c0 c2 m2 e4 hle;obtain ⟨x0,x1,x2,x3,f0,f1,f2,f3⟩:=zb4 d0;obtain ⟨y0,y1,y2,y3,g0,g1,g2,g3⟩:=zb4 d2;go_wp2_with fail
 clear x0 x1 x2 x3 f0 f1 f2 f3 y0 y1 y2 y3 g0 g1 g2 g3;have d3:=set4 (zcP (i:=0) (x:=.slice ra (zaD s.cells [((j:Int),y)]).length rc) d2 (show w.heap.size+1+1≠w.heap.size by omega)) (.slice ra (zaD s.cells [((j:Int),y)]).length rc) (.slice va (s.undo.length+1) vc) (.slice aa s.answers.length ac) (.slice pa s.past.length pc);obtain ⟨q0,q1,q2,q3,-⟩:=zb4 d3;have m5:=zcj (m4.setCell (p:=⟨w.heap.size,0,none⟩) (Nat.le_refl _) (.slice ra (zaD s.cells [((j:Int),y)]).length rc)) (b:=w.heap.size+1+1) (by omega) (.slice ra (zaD s.cells [((j:Int),y)]).length rc) (.slice va (s.undo.length+1) vc) (.slice aa s.answers.length ac) (.slice pa s.past.length pc);refine bodyPost_ret (by simp [results,Tryz.results61,go_sem,q0,q1,q2,q3]; rfl) rfl ?_;rw [hold];refine ⟨_,rfl,m5,Rd.widen (A:=B) (zca (zdJ (s:={ s with cells:=zaD s.cells [((j:Int),y)],undo:=((j:Int),old)::s.undo }) ?_ ?_ ?_ ?_)) (fun k _ h=>HK.o.2.2.2 k h)⟩
 ·exact ((((K5.o.set n0 _ _).set n2 _ _).set n2 _ _).set n2 _ _).set n2 _ _
 ·exact ((((K2.o.set n0 _ _).set n2 _ _).set n2 _ _).set n2 _ _).set n2 _ _
 ·exact ((((K3.o.set n0 _ _).set n2 _ _).set n2 _ _).set n2 _ _).set n2 _ _
 ·exact ((((K4.o.set n0 _ _).set n2 _ _).set n2 _ _).set n2 _ _).set n2 _ _

theorem zgR (c u a p:Value) (s:St) (x y:Int) (w:World) (A:Nat->Prop) (h:Rd A (fun w=>zcn w [c,u,a,p] s) w) (hr:s.cells.length * 8<=140737488355328) (hr2:(1+s.undo.length) * 16<=140737488355328) :
  zaK Tryz.prog 61 #[.agg #[c,u,a,p],.agg #[I x,I y]] w A (fun r w'=>Agg zcn (zau s (x,y)) r w'):=by
 by_cases hx:0<=x/\x < (s.cells.length:Int)
 ·obtain ⟨j,rfl⟩:∃ j:Nat,x=(j:Int):=⟨x.toNat,by omega⟩
  exact zmQ c u a p s j y w A h (by omega) hr hr2
 ·exact zmm c u a p s x y w A h hx

end Go.Proofs.YtdmipnnfoolelafGreat

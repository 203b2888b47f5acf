/- zbb of the proof, merged: T1 T2 T3 T4 T5 T6. -/
import Derived.Test.YtdmipnnfoolelagGreatDoorKTA
import Derived.Test.YtdmipnnfoolelagGreatDoorKTJ
import Derived.Test.YtdmipnnfoolelagGreatDoorKTM
import Derived.Deep.DeepCutAuto
import Derived.Lib.ItoaLen
set_option maxHeartbeats 4000000
set_option maxRecDepth 100000

namespace Go.Proofs.YtdmipnnfoolelagGreatDoor
open Go.RowKit Go.Mk

theorem zjH (k:Int) (w:World):Calls Tryz.prog 34 #[I k] w fun e w'=>e=.returned (S (zcF k))/\w'=w:=by
 have hk2:k=1∨k=2∨k=3∨k=4∨k=5∨k=6∨(k≠1/\k≠2/\k≠3/\k≠4/\k≠5/\k≠6):=by omega
 rcases hk2 with rfl | rfl | rfl | rfl | rfl | rfl | ⟨h1,h2,h3,h4,h5,h6⟩
 all_goals
  go_enter Tryz.func34,Tryz.ntmps34
  go_wp2
  go_ret
  refine ⟨?_,rfl⟩
  simp_all [zcF]

theorem zkR (s:Bs) (hs:s.length<=1000000000) (v:Int) (h:Lib.atoiAll s=.ok v) (w:World) (hv:zen w) :
  Calls Tryz.prog 62 #[S s] w fun e w'=>e=.returned (.tuple #[I v,.bool (Lib.itoa v == s)])/\Ext w w':=by
 obtain ⟨f1,f2⟩:=zqS h;go_enter Tryz.func62,Tryz.ntmps62
 go_wp2_with (first
  | (go_at_call 81; refine Calls.exts (zsU s hs v h _) ?_; intro w1 e1)
  | (go_at_call 36; refine Calls.exts (zmG v f1 f2 _ (hv.ext e1)) ?_; intro w2 e2))
 go_ret2
 exact ⟨rfl,e1.trans e2⟩

theorem znU (s:Bs) (hs:s.length<=1000000000) (h:∀ v,Lib.atoiAll s≠.ok v) (w:World) (hv:zen w) :
  Calls Tryz.prog 62 #[S s] w fun e w'=>∃ n,e=.returned (.tuple #[I n,.bool false])/\Ext w w':=by
 go_enter Tryz.func62,Tryz.ntmps62
 go_wp2_with (first
  | (go_at_call 81; refine (zrS s hs h _ hv).mono ?_; rintro e w1 ⟨n,tp,p,rfl,e1⟩))
 go_ret2
 exact ⟨n,rfl,e1⟩

theorem zmB (s:Bs) (hs:s.length<=1000000000) (n:Int) (h:zdx s=some n) (w:World) (hv:zen w) :
  Calls Tryz.prog 62 #[S s] w fun e w'=>e=.returned (.tuple #[I n,.bool true])/\Ext w w':=by
 cases ha:Lib.atoiAll s with
 | ok v =>
  rw [zmO ha] at h
  by_cases he:Lib.itoa v=s
  ·rw [if_pos he] at h
   injection h with h
   subst h
   have hb:(Lib.itoa v == s)=true:=by simpa using he
   have:=zkR s hs v ha w hv
   rw [hb] at this
   exact this
  ·rw [if_neg he] at h; cases h
 | _=>rw [zqo (fun v hv=>by rw [ha] at hv; cases hv)] at h; cases h

theorem znA (s:Bs) (hs:s.length<=1000000000) (h:zdx s=none) (w:World) (hv:zen w) :
  Calls Tryz.prog 62 #[S s] w fun e w'=>∃ n,e=.returned (.tuple #[I n,.bool false])/\Ext w w':=by
 by_cases hx:∃ v,Lib.atoiAll s=.ok v
 ·obtain ⟨v,ha⟩:=hx
  rw [zmO ha] at h
  by_cases he:Lib.itoa v=s
  ·rw [if_pos he] at h; cases h
  ·have hb:(Lib.itoa v == s)=false:=by simpa using he
   have:=zkR s hs v ha w hv
   rw [hb] at this
   exact this.mono fun e w' ⟨he,hx⟩=>⟨v,he,hx⟩
 ·exact znU s hs (fun v hv=>hx ⟨v,hv⟩) w hv

theorem zod {s:Bs} {k:Nat} (h1:1<=k) (h2:k<=6) (h:zcF (k:Int)=s):zbN s=k:=by
 rw [<- h]
 exact zky (by omega)
theorem zmC {s:Bs} (h:∀ j:Nat,1<=j->j < 7->zcF (j:Int)≠s):zbN s=0:=by
 by_cases hk:zbN s=0
 ·exact hk
 ·obtain ⟨e,h1,h2⟩:=zkG hk
  have:=h (zbN s).toNat (by omega) (by omega)
  rw [show (((zbN s).toNat:Nat):Int)=zbN s by omega] at this
  exact absurd e this

theorem zjI (s:Bs) (w:World):Calls Tryz.prog 40 #[S s] w fun e w'=>e=.returned (I (zbN s))/\Ext w w':=by
 go_enter Tryz.func40,Tryz.ntmps40
 go_wp2
 go_loopw [3] (fun i wr=>∃ k:Nat,1<=k/\k<=7/\i=I k/\(∀ j:Nat,1<=j->j < k->zcF (j:Int)≠s)/\Ext w wr) (fun i _=>7 - (intOf i).toNat)
 case atStart=>exact ⟨1,by omega,by omega,rfl,fun j h1 h2=>by omega,Ext.refl w⟩
 case round =>
  obtain ⟨k,h1,h2,rfl,hf,he⟩:=hrel;have HF:Hid (∀ j:Nat,1<=j->j < k->zcF (j:Int)≠s):=hf;clear hf;by_cases hlt:k<=6
  ·have hz:(k:Int)<=6:=by omega
   generalize hq:zcF (k:Int)=q;have HQ:Hid (zcF (k:Int)=q):=hq;have hcall:∀ wx,Calls Tryz.prog 34 #[I k] wx fun e w'=>e=.returned (S q)/\w'=wx:=fun wx=>by rw [<- hq]; exact zjH _ _
   clear hq;by_cases hw:q=s
   ·have hb:(q == s)=true:=by simpa using hw
    have HW:Hid (q=s):=hw;clear hw;go_wp2_with (go_at_call 34; refine Calls.same (hcall _) ?_)
    go_ret
    exact ⟨zec (zod h1 hlt (HQ.o.trans HW.o)).symm,he⟩
   ·have hb:(q == s)=false:=by simpa using hw
    have HW:Hid (q≠s):=hw;clear hw;go_wp2_with (go_at_call 34; refine Calls.same (hcall _) ?_)
    go_roundw
    case rel =>
     refine ⟨k+1,by omega,by omega,by go_num,fun j hj1 hj2=>?_,he⟩;by_cases hjk:j < k
     ·exact HF.o j hj1 hjk
     ·rw [show j=k by omega,HQ.o]; exact HW.o
    case measure=>simp [intOf]; omega
  ·have hz:¬ (k:Int)<=6:=by omega
   go_wp2
   go_ret
   exact ⟨zec (zmC (fun j hj1 hj2=>HF.o j hj1 (by omega))).symm,he⟩

def zaZ (k:Int):List Nat:=if k=1∨k=4 then [1,3] else if k=2∨k=3 then [1] else if k=6 then [1,2] else []

theorem zdL (k:Int):(zaZ k).length=zgW k:=by
 unfold zaZ zgW
 repeat' split
 all_goals first | rfl | (exfalso; omega)

def zjJ (b:Nat) (fs:List Nat):List Value:=fs.map fun j=>.pointer (some ⟨b,j,none⟩)

def zdF (base:Nat) (w:World) (v:Value) (b:Nat) (fs:List Nat):Prop:=w.ownsRow base 97 1 v fs.length (zjJ b fs)

theorem zdF.ptrs {base:Nat} {w:World} {v:Value} {b:Nat} {fs:List Nat} (h:zdF base w v b fs):zrz w v b fs:=Row.of_owns h
theorem zdF.ext {base:Nat} {w w':World} {v:Value} {b:Nat} {fs:List Nat} (h:zdF base w v b fs) (he:Ext w w'):zdF base w' v b fs:=zai h he
theorem zdF.grown {base:Nat} {w w':World} {v:Value} {b:Nat} {fs:List Nat} (h:zdF base w v b fs) (hb:b < base) (hg:w.grownBy w' (some b)):zdF base w' v b fs :=
 h.kept hg (.inr fun e=>by have:=(h.lt b e).1; omega)
theorem zpZ (base b:Nat) (fs:List Nat):∀ v,zb9 (fun w=>zdF base w v b fs):=fun _ _ _ he h=>zdF.ext h he

theorem zfS {w:World} (b:Nat) (fs:List Nat) (cs:Array Value) (n:Nat) (hc:cs.toList=zjJ b fs) (hn:fs.length=n) (hm:n<=maxLen):zdF w.heap.size (w.alloc (.cells cs 97)) (.slice (some ⟨w.heap.size,0,none⟩) n n) b fs:=by
 subst hn
 have:=World.ownsRow_lit (base:=w.heap.size) (e:=97) (size:=1) w cs fs.length (Nat.le_refl _) hm (by rw [<- Array.length_toList,hc]; simp [zjJ])
 rw [hc] at this
 exact this

theorem zrF (base:Nat) (w:World) (b:Nat):zdF base w (.slice none 0 0) b []:=World.ownsRow_nil w base _ 1

theorem zjN (b:Nat) (k:Int) (w:World) (h0:w.cell? ⟨b,0,none⟩=some (I k)) :
  Calls Tryz.prog 35 #[.pointer (some ⟨b,0,none⟩)] w fun e w'=>∃ r,e=.returned r/\Ext w w'/\zdF w.heap.size w' r b (zaZ k):=by
 have hk2:k=1∨k=2∨k=3∨k=4∨k=6∨(k≠1/\k≠2/\k≠3/\k≠4/\k≠6):=by omega
 rcases hk2 with rfl | rfl | rfl | rfl | rfl | ⟨h1,h2,h3,h4,h6⟩
 ·go_enter Tryz.func35,Tryz.ntmps35
  go_wp2
  go_region
  go_wp2
  go_ret
  exact ⟨_,rfl,((Ext.refl w).alloc _).drewN 1,(zfS b [1,3] _ 2 rfl rfl (by decide)).ext (Ext.of_drewN _ 1)⟩
 ·go_enter Tryz.func35,Tryz.ntmps35
  go_wp2
  go_ret
  exact ⟨_,rfl,(Ext.refl w).alloc _,zfS b [1] _ 1 rfl rfl (by decide)⟩
 ·go_enter Tryz.func35,Tryz.ntmps35
  go_wp2
  go_ret
  exact ⟨_,rfl,(Ext.refl w).alloc _,zfS b [1] _ 1 rfl rfl (by decide)⟩
 ·go_enter Tryz.func35,Tryz.ntmps35
  go_wp2
  go_region
  go_wp2
  go_ret
  exact ⟨_,rfl,((Ext.refl w).alloc _).drewN 1,(zfS b [1,3] _ 2 rfl rfl (by decide)).ext (Ext.of_drewN _ 1)⟩
 ·go_enter Tryz.func35,Tryz.ntmps35
  go_wp2
  go_region
  go_wp2
  go_ret
  exact ⟨_,rfl,((Ext.refl w).alloc _).drewN 1,(zfS b [1,2] _ 2 rfl rfl (by decide)).ext (Ext.of_drewN _ 1)⟩
 ·have hf:zaZ k=[]:=by
   unfold zaZ;rw [if_neg (by omega),if_neg (by omega),if_neg h6]
  have HF:Hid (zaZ k=[]):=hf;clear hf;go_enter Tryz.func35,Tryz.ntmps35
  go_wp2
  go_ret
  exact ⟨_,rfl,Ext.refl w,by rw [HF.o]; exact zrF _ _ _⟩

open Go.RowKit Go.Mk

theorem zik:∀ (ws:List Bs) (x:Bs) (ns:List Int) (n:Int),numsOf ws=some ns->zdx x=some n->numsOf (ws++[x])=some (ns++[n])
 | [],x,ns,n,h,hx=>by
  simp [numsOf] at h
  subst h
  simp [numsOf,hx]
 | w::ws,x,ns,n,h,hx=>by
  rw [List.cons_append]
  unfold numsOf at h ⊢
  cases h1:zdx w with
  | none=>rw [h1] at h; cases h
  | some m =>
   rw [h1] at h
   cases h2:numsOf ws with
   | none=>rw [h2] at h; cases h
   | some ms =>
    rw [h2] at h
    simp at h
    subst h
    simp [zik ws x ms n h2 hx]
theorem zi8:∀ {ws:List Bs} {x:Bs},x ∈ ws->zdx x=none->numsOf ws=none
 | [],x,h,_=>by simp at h
 | w::ws,x,h,hx=>by
  unfold numsOf
  rw [List.mem_cons] at h
  rcases h with rfl | h
  ·rw [hx]
  ·cases zdx w with
   | none=>rfl
   | some m=>simp only []; rw [zi8 h hx]
theorem zjT:∀ {ws:List Bs} {ns:List Int},numsOf ws=some ns->ns.length=ws.length:=by
 intro ws ns h
 rw [<- zio h]; simp

def zhV:Array Value->List Nat->List Int->Array Value
 | cs,j::fs,n::ns=>zhV (cs.setIfInBounds j (I n)) fs ns
 | cs,_,_=>cs

theorem zkV:∀ (cs:Array Value) (fs:List Nat) (ns:List Int) (j:Nat) (n:Int),fs.length=ns.length->zhV cs (fs++[j]) (ns++[n])=(zhV cs fs ns).setIfInBounds j (I n)
 | cs,[],[],j,n,_=>rfl
 | cs,i::fs,m::ns,j,n,h=>zkV _ fs ns j n (by simpa using h)
 | cs,[],m::ns,j,n,h=>by simp at h
 | cs,i::fs,[],j,n,h=>by simp at h
theorem zkP:∀ (cs:Array Value) (fs:List Nat) (ns:List Int),(zhV cs fs ns).size=cs.size
 | cs,[],ns=>by cases ns <;> rfl
 | cs,j::fs,[]=>rfl
 | cs,j::fs,n::ns=>by rw [zhV,zkP]; simp

def zfn (fs:List Nat) (ws:List Bs):Bool:=ws.length == fs.length && (numsOf ws).isSome

def zuP (w:World) (b:Nat) (t:TypeId) (cs:Array Value) (fs:List Nat) (ws:List Bs) (e:Ending) (w':World):Prop :=
 e=.returned (.bool (zfn fs ws))/\w.grownBy w' (some b)/\∀ ns,numsOf ws=some ns->ws.length=fs.length->w'.heap[b]?=some (.cells (zhV cs fs ns) t (0,0))

theorem zfz {α:Type} [Inhabited α] (l:List α) (k:Nat) (h:k < l.length) (d:α):l.take (k+1)=l.take k++[l.getD k d]:=by
 rw [List.take_add_one]
 simp [h]

theorem zsv (v u:Value) (b:Nat) (t:TypeId) (cs:Array Value) (fs:List Nat) (ws:List Bs) (w:World) (H:∀ w',w.grownBy w' (some b)->zrz w' v b fs/\Strs w' u ws/\zen w')
  (hb:w.heap[b]?=some (.cells cs t (0,0))) (hfs:∀ k,k < fs.length->fs.getD k 0 < cs.size) (hs:∀ k,k < ws.length->(ws.getD k []).length<=1000000000) :
  Calls Tryz.prog 41 #[v,u] w fun e w'=>zuP w b t cs fs ws e w':=by
 obtain ⟨hp,hu,-⟩:=H w (World.grownBy.refl _ _);obtain ⟨ao,cap,rfl,h1,h2,-⟩:=hp.form;obtain ⟨ao',cap',rfl,h1',h2',-⟩:=hu.form;unfold maxLen at h2 h2';clear hp hu;by_cases hl:ws.length=fs.length
 case neg =>
  have hz:¬ ((ws.length:Int)=(fs.length:Int)):=by omega
  have hb':((ws.length:Int) == (fs.length:Int))=false:=by simpa using hz
  clear H;go_enter Tryz.func41,Tryz.ntmps41
  go_wp2
  go_ret
  refine ⟨?_,World.grownBy.refl _ _,fun ns _ hx=>absurd hx hl⟩;simp [zfn,hl]
 have HL:Hid (ws.length=fs.length):=hl;rw [hl] at H h1' ⊢;clear hl;go_enter Tryz.func41,Tryz.ntmps41
 go_wp2
 go_loopw [16] (fun i wr=>∃ (k:Nat) (ns:List Int),k<=fs.length/\i=I k/\numsOf (ws.take k)=some ns/\w.grownBy wr (some b)/\wr.heap[b]?=some (.cells (zhV cs (fs.take k) ns) t (0,0))) (fun i _=>fs.length - (intOf i).toNat)
 case atStart=>exact ⟨0,[],by omega,rfl,by simp [numsOf],World.grownBy.refl _ _,by simpa [zhV] using hb⟩
 case round =>
  obtain ⟨k,ns,hk,rfl,hn,hg,hh⟩:=hrel;by_cases hlt:k < fs.length
  ·have hl:=HL.o;obtain ⟨hp,hu,hvv⟩:=H _ hg;obtain ⟨ao1,cap1,ea,-,-,c1⟩:=hp.form;obtain ⟨ao2,cap2,eb,-,-,c2⟩:=hu.form;simp only [Value.slice.injEq,true_and] at ea;obtain ⟨rfl,rfl⟩:=ea;simp only [Value.slice.injEq] at eb;obtain ⟨rfl,-,rfl⟩:=eb;obtain ⟨b1,o1,rfl,d1⟩:=c1 k (by omega);obtain ⟨b2,o2,rfl,d2⟩:=c2 k (by omega);have hx:=hs k (by omega);have hj:=hfs k (by omega)
   have hfr:∀ wx,Ext wr wx->wx.heap[b]?=some (.cells (zhV cs (fs.take k) ns) t (0,0)):=fun wx ex=>by
    rw [ex.block b (Array.getElem?_eq_some_iff.1 hh).1]; exact hh
   have hcell:∀ wx,Ext wr wx->∃ y,wx.cell? ⟨b,fs.getD k 0,none⟩=some y/\wx.frozen? ⟨b,fs.getD k 0,none⟩=false:=fun wx ex=>by
    have hsz:fs.getD k 0 < (zhV cs (fs.take k) ns).size:=by rw [zkP]; exact hj
    exact ⟨_,zaS (hfr wx ex) (Array.getElem?_eq_getElem hsz),zaY (hfr wx ex)⟩
   have ex1:ws.take (k+1)=ws.take k++[ws.getD k []]:=zfz ws k (by omega) [];have ex2:fs.take (k+1)=fs.take k++[fs.getD k 0]:=zfz fs k (by omega) 0
   have hmem:ws.getD k [] ∈ ws:=by
    have hw:k < ws.length:=by omega
    simp [hw]
   clear c1 c2 hp hu H hfs hs;generalize hq:ws.getD k []=x at d2 hx ex1 hmem;generalize hr:fs.getD k 0=j at d1 hcell ex2 hj;clear hq hr;have E1:Hid (ws.take (k+1)=ws.take k++[x]):=ex1;have E2:Hid (fs.take (k+1)=fs.take k++[j]):=ex2;have HN:Hid (numsOf (ws.take k)=some ns):=hn;have HH:Hid (∀ wx,Ext wr wx->wx.heap[b]?=some (.cells (zhV cs (fs.take k) ns) t (0,0))):=hfr;have HC:Hid (∀ wx,Ext wr wx->∃ y,wx.cell? ⟨b,j,none⟩=some y/\wx.frozen? ⟨b,j,none⟩=false):=hcell;have HM:Hid (x ∈ ws):=hmem;have hkl:(k:Int) < (fs.length:Int):=by omega
   clear ex1 ex2 hn hfr hcell hmem hh hb hl;cases hnum:zdx x with
   | none =>
    have HX:Hid (zdx x=none):=hnum;have hcall:∀ wx,zen wx->Calls Tryz.prog 62 #[S x] wx fun e w'=>∃ n,e=.returned (.tuple #[I n,.bool false])/\Ext wx w':=fun wx hv=>znA x hx hnum wx hv;clear hnum;go_wp2_with (go_at_call 62; refine (hcall _ hvv).mono ?_; rintro e w1 ⟨n,rfl,e1⟩)
    go_ret
    have hbad:=zi8 HM.o HX.o;refine ⟨?_,zaz hg (e1.grownBy _),fun ns' h' _=>by rw [hbad] at h'; cases h'⟩;simp [zfn,hbad]
   | some n =>
    have HX:Hid (zdx x=some n):=hnum;have hcall:∀ wx,zen wx->Calls Tryz.prog 62 #[S x] wx fun e w'=>e=.returned (.tuple #[I n,.bool true])/\Ext wx w':=fun wx hv=>zmB x hx n hnum wx hv;clear hnum;go_wp2_with (go_at_call 62; refine Calls.exts (hcall _ hvv) ?_; intro w1 e1; have d3:=e1.cell d1; obtain ⟨y,hy1,hy2⟩:=HC.o w1 e1)
    go_roundw
    case rel =>
     refine ⟨k+1,ns++[n],by omega,by go_num,by rw [E1.o]; exact zik _ _ _ _ HN.o HX.o,zaz (zaz hg (e1.grownBy _)) (zcx _ b j _),?_⟩;have hlen:(fs.take k).length=ns.length:=by rw [zjT HN.o,List.length_take,List.length_take]; have:=HL.o; omega
     rw [E2.o,zkV _ _ _ _ _ hlen];exact heap_setCell_same _ _ _ _ _ _ (HH.o w1 e1)
    case measure=>simp [intOf]; omega
  ·have hk':k=fs.length:=by omega
   have HK:Hid (k=fs.length):=hk';have HN:Hid (numsOf (ws.take k)=some ns):=hn;have HH:Hid (wr.heap[b]?=some (.cells (zhV cs (fs.take k) ns) t (0,0))):=hh;clear hk' hn hh hb H hfs hs;go_wp2
   go_ret
   have e1:ws.take k=ws:=by rw [HK.o,<- HL.o]; simp
   have e2:fs.take k=fs:=by rw [HK.o]; simp
   have hn:=HN.o;rw [e1] at hn;refine ⟨?_,hg,fun ns' h' _=>?_⟩
   ·simp [zfn,hn,HL.o]
   ·rw [hn] at h';injection h' with h';subst h';have hh:=HH.o;rw [e2] at hh;exact hh

open Go.RowKit Go.Mk

theorem zkO (s:Bs) (c:UInt8) (w:World):Calls Tryz.prog 60 #[S s,S [c]] w fun e w'=>e=.returned (I (Lib.indexByte s c))/\w'=w :=
 (Any.stringslite_Index_one { Tryz.lays145 with } ⟨s.toArray⟩ c w).mono fun e w' ⟨he,hw⟩=>⟨by simpa using he,hw⟩

theorem zt8 (l r:Bs):(⟨(l++r).toArray⟩:ByteArray).extract 0 l.length=⟨l.toArray⟩:=by
 rw [Lib.extract_eq]
 simp
theorem zuH (l r:Bs) (c:UInt8):(⟨(l++c::r).toArray⟩:ByteArray).extract (l.length+1) (l.length+(r.length+1))=⟨r.toArray⟩:=by
 rw [Lib.extract_eq]
 have e:(l++c::r).drop (l.length+1)=r:=by
  rw [<- List.drop_drop]
  simp
 simp only [e]
 rw [List.take_of_length_le (by omega)]

theorem zpX (s:Bs) (c:UInt8) (h:c ∉ s) (w:World):Calls Tryz.prog 38 #[S s,S [c]] w fun e w'=>e=.returned (.tuple #[S s,S [],.bool false])/\Ext w w':=by
 have hi:=fun wx=>zkO s c wx;rw [zeh h] at hi;clear h;go_enter Tryz.func38,Tryz.ntmps38
 go_wp2_with (go_at_call 60; refine Calls.same (hi _) ?_)
 go_ret3
 exact ⟨rfl,Ext.refl w⟩

theorem zrs (l r:Bs) (c:UInt8) (h:c ∉ l) (hb:l.length+(r.length+1)<=1000000000) (w:World):Calls Tryz.prog 38 #[S (l++c::r),S [c]] w fun e w'=>e=.returned (.tuple #[S l,S r,.bool true])/\Ext w w':=by
 have hi:=fun wx=>zkO (l++c::r) c wx;rw [zdX h] at hi;clear h;go_enter Tryz.func38,Tryz.ntmps38
 go_wp2_with (go_at_call 60; refine Calls.same (hi _) ?_)
 go_region
 go_wp2
 go_ret3
 rw [zt8,zuH];exact ⟨rfl,(Ext.refl w).drewN 1⟩

theorem zrJ (s:Bs) (h:(10:UInt8) ∉ s) (w:World):Calls Tryz.prog 20 #[S s,S [10]] w fun e w'=>e=.returned (.tuple #[S s,S [],.bool false])/\Ext w w':=by
 have hc:=fun wx=>zpX s 10 h wx;clear h;go_enter Tryz.func20,Tryz.ntmps20
 go_wp2_with (go_at_call 38; refine Calls.exts (hc _) ?_; intro w1 e1)
 go_ret3
 exact ⟨rfl,e1⟩

theorem ztt (l r:Bs) (h:(10:UInt8) ∉ l) (hb:l.length+(r.length+1)<=1000000000) (w:World):Calls Tryz.prog 20 #[S (l++10::r),S [10]] w fun e w'=>e=.returned (.tuple #[S l,S r,.bool true])/\Ext w w':=by
 have hc:=fun wx=>zrs l r 10 h hb wx;clear h;go_enter Tryz.func20,Tryz.ntmps20
 go_wp2_with (go_at_call 38; refine Calls.exts (hc _) ?_; intro w1 e1)
 go_ret3
 exact ⟨rfl,e1⟩

theorem zsr (s:Bs) (w:World):Calls Tryz.prog 79 #[S s,S [32]] w fun e w'=>e=.returned (.int .i64 (Lib.countB ⟨s.toArray⟩ ⟨#[32]⟩))/\w'=w :=
 (Any.strings_Count_one (L:={ Tryz.lays147 with }) ⟨s.toArray⟩ 32 w).mono fun e w' ⟨he,hw⟩=>⟨by
  rw [he]
  show _=Ending.returned (Value.int .i64 ((Lib.count _ [32]:Nat):Int))
  rw [Lib.count_one]
  rfl,hw⟩

def zfw (s:Bs):List ByteArray:=Lib.splitB ⟨#[32]⟩ 0 (min 4 (s.length+1) - 1) ⟨s.toArray⟩
def zdr (s:Bs):List Bs:=Lib.splitK [32] 0 (min 4 (s.length+1) - 1) s

theorem zim (s:Bs):(zfw s).map Value.string=(zdr s).map S:=by
 have h:=Lib.splitB_data ⟨#[32]⟩ 0 (min 4 (s.length+1) - 1) ⟨s.toArray⟩
 have e:zdr s=(zfw s).map (·.data.toList):=by
  unfold zdr zfw
  rw [h]
 rw [e,List.map_map]
 apply List.map_congr_left
 intro x _
 simp [S]

theorem zlg (s:Bs) (hs:s.length<=1000000000) (w:World):Calls Tryz.prog 61 #[S s,S [32],I 0,I 4] w fun e w' =>
  e=.returned (.slice (some ⟨w.heap.size,0,none⟩) (zfw s).length (min 4 (s.length+1)))/\w'=w.alloc (.cells (Lib.cellsOf (zfw s) (min 4 (s.length+1))) 9):=by
 have hsz:(⟨s.toArray⟩:ByteArray).size=s.length:=by simp [ByteArray.size]
 have:=Any.strings_genSplit_core (P:=Tryz.prog) (ρ:=Tryz.lays147_ren) { Tryz.lays147 with } (by kernel_rfl) ⟨s.toArray⟩ ⟨#[32]⟩ 0 4 (min 4 (s.length+1)) w (by rw [hsz]; omega) (by decide) (by decide)
  (fun x c _=>(Any.strings_Index_one (P:=Tryz.prog) (ρ:=Tryz.lays147_ren) { Tryz.lays147 with } x 32 _).mono fun e w' ⟨he,hw⟩=>⟨by rw [he]; exact zec (indexOne _ _).symm,hw⟩)
  (zsr s w) (by decide) (by decide) (by rw [hsz,if_neg (by decide)]; omega)
 exact this

theorem zgI (s:Bs):(zfw s).length=(zdr s).length:=by
 have:=congrArg List.length (zim s)
 simpa using this
theorem zp1 (s:Bs):(zdr s).length<=min 4 (s.length+1):=by
 rw [<- zgI]
 have:=Lib.splitB_length_le ⟨#[32]⟩ 0 (min 4 (s.length+1) - 1) ⟨s.toArray⟩
 unfold zfw
 omega
theorem zmP (s:Bs):∃ x r,zdr s=x::r:=by
 cases h:zdr s with
 | cons x r=>exact ⟨x,r,rfl⟩
 | nil =>
  unfold zdr at h
  cases hk:min 4 (s.length+1) - 1 with
  | zero=>rw [hk] at h; cases h
  | succ k =>
   rw [hk,Lib.splitK] at h
   split at h <;> cases h
theorem zlw:∀ (k:Nat) (s:Bs),∀ x ∈ Lib.splitK [32] 0 k s,x.length<=s.length:=by
 intro k
 induction k with
 | zero=>intro s x hx; simp [Lib.splitK] at hx; rw [hx]; exact Nat.le_refl _
 | succ k ih =>
  intro s x hx
  rw [Lib.splitK] at hx
  split at hx
  ·simp at hx; rw [hx]; exact Nat.le_refl _
  ·rw [List.mem_cons] at hx
   rcases hx with rfl | hx
   ·simp; omega
   ·have:=ih _ x hx
    simp at this
    omega

theorem zjj {wx:World} {g off cap:Nat} {cs:Array Value} {t:TypeId} {ws:List Bs} (h:wx.heap[g]?=some (.cells cs t (0,0))) (hc:∀ (j:Nat) u,(ws.map S)[j]?=some u->cs[off+j]?=some u) (hn:ws.length<=cap) (hm:cap<=maxLen) :
  Strs wx (.slice (some ⟨g,off,none⟩) ws.length cap) ws :=
 ⟨by simp,_,_,rfl,hn,hm,(fun e=>by cases e),fun j u hj=>⟨g,off,rfl,zaS h (hc j u hj)⟩⟩

theorem zjA (s:Bs) (hs:s.length<=1000000000) (w:World):Calls Tryz.prog 39 #[S s,S [32],I 4] w fun e w' =>
  ∃ cs:Array Value,e=.returned (.slice (some ⟨w.heap.size,0,none⟩) (zdr s).length (min 4 (s.length+1)))/\w'=w.alloc (.cells cs 9)/\∀ (j:Nat) u,((zdr s).map S)[j]?=some u->cs[j]?=some u:=by
 have hg:=zlg s hs w;go_enter Tryz.func39,Tryz.ntmps39
 go_wp2_with (go_at_call 61; refine hg.mono ?_; rintro e w' ⟨rfl,hw⟩; rw [hw])
 go_ret
 refine ⟨_,by rw [zgI]; rfl,rfl,fun j u hj=>?_⟩;rw [<- zim] at hj;unfold Lib.cellsOf;rw [List.getElem?_toArray,List.getElem?_append_left (List.getElem?_eq_some_iff.1 hj).1];exact hj

open Go.RowKit Go.Mk

theorem zj9 (s x:Bs) (r:List Bs) (hp:zdr s=x::r) (hs:s.length<=1000000000) (hk:zbN x=0) (w:World) :
  Calls Tryz.prog 21 #[S s] w fun e w'=>e=.returned (.tuple #[A zeroCl,I 1])/\Ext w w':=by
 have hsp:∀ wx,Calls Tryz.prog 39 #[S s,S [32],I 4] wx fun e w'=>∃ cs:Array Value,e=.returned (.slice (some ⟨wx.heap.size,0,none⟩) (r.length+1) (min 4 (s.length+1)))/\w'=wx.alloc (.cells cs 9)/\cs[0]?=some (S x):=fun wx =>
  (zjA s hs wx).mono fun e w' ⟨cs,he,hw,hc⟩=>by
   rw [hp] at he hc;exact ⟨cs,he,hw,hc 0 _ rfl⟩
 have hkk:∀ wx,Calls Tryz.prog 40 #[S x] wx fun e w'=>e=.returned (I 0)/\Ext wx w':=fun wx=>by rw [<- hk]; exact zjI x wx
 clear hp hk;go_enter Tryz.func21,Tryz.ntmps21
 go_wp2_with (first
  | (go_at_call 39; refine (hsp _).mono ?_; rintro e w1 ⟨cs,rfl,hw,hc⟩; rw [hw])
  | (go_at_call 40; refine Calls.exts (hkk _) ?_; intro w2 e2; have hA:=fun o=>zcf (zaV (zcT e2) ((Ext.refl w2).alloc o)); have c0:=fun o=>(hA o).1; have c1:=fun o=>(hA o).2.1; have c2:=fun o=>(hA o).2.2.1; have c3:=fun o=>(hA o).2.2.2.1; have f0:=fun o=>(hA o).2.2.2.2.1; have f1:=fun o=>(hA o).2.2.2.2.2.1; have f2:=fun o=>(hA o).2.2.2.2.2.2.1; have f3:=fun o=>(hA o).2.2.2.2.2.2.2; clear hA))
 have hB:=set4 (zaV (zcT e2) ((Ext.refl w2).alloc (.cells #[I 0,I 0,I 0,I 0] 33))) (I 0) (I 0) (I 0) (I 0);obtain ⟨d0,d1,d2,d3,-⟩:=zcf hB;have hE:=zbY (((((Ext.refl w).alloc _).alloc _).trans e2).alloc (.cells #[I 0,I 0,I 0,I 0] 33)) (Nat.le_refl w.heap.size) (I 0) (I 0) (I 0) (I 0);clear c0 c1 c2 c3 f0 f1 f2 f3;refine bodyPost_ret (by simp [results,Tryz.results21,go_sem,d0,d1,d2,d3]; rfl) rfl ?_;exact ⟨rfl,hE⟩

theorem zqB (k:Int):∀ j,j < (zaZ k).length->(zaZ k).getD j 0 < 4:=by
 intro j hj
 unfold zaZ at hj ⊢
 repeat' split at hj
 all_goals
  simp at hj
  try (match j,hj with
   | 0,_=>simp_all
   | 1,_=>simp_all)

theorem zs4 {k:Int} {ns:List Int} (hk:1<=k/\k<=6) (hn:ns.length=zgW k) :
  zhV #[I k,I 0,I 0,I 0] (zaZ k) ns=#[I (mkCl k ns).kind,I (mkCl k ns).name,I (mkCl k ns).other,I (mkCl k ns).n]:=by
 have:k=1∨k=2∨k=3∨k=4∨k=5∨k=6:=by omega
 rcases this with rfl | rfl | rfl | rfl | rfl | rfl
 all_goals
  rcases ns with _ | ⟨a,_ | ⟨b,_ | ⟨d,r⟩⟩⟩
  all_goals first | rfl | (exact absurd hn (by simp [zgW]))
theorem zpP {x:Bs} {r:List Bs} {k:Int} (hk:zbN x=k) (hk0:k≠0) (h:zfn (zaZ k) r=false):zcL x r=(zeroCl,2):=by
 unfold zcL
 rw [hk,if_neg hk0]
 by_cases hl:r.length≠zgW k
 ·rw [if_pos hl]
 ·rw [if_neg hl]
  unfold zfn at h
  rw [zdL] at h
  simp only [ne_eq,Decidable.not_not] at hl
  rw [hl] at h
  simp at h
  rw [h]
theorem zoI {x:Bs} {r:List Bs} {k:Int} (hk:zbN x=k) (hk0:k≠0) (h:zfn (zaZ k) r=true):∃ ns,numsOf r=some ns/\r.length=(zaZ k).length/\ns.length=zgW k/\(1<=k/\k<=6) /\
  zcL x r=if wrongCl (mkCl k ns)≠0 then (zeroCl,wrongCl (mkCl k ns)) else (mkCl k ns,0):=by
 unfold zfn at h
 simp only [Bool.and_eq_true,beq_iff_eq] at h
 obtain ⟨ns,hn⟩:=Option.isSome_iff_exists.1 h.2
 have h1:=h.1
 rw [zdL] at h1
 obtain ⟨_,k1,k2⟩:=zkG (w:=x) (by rw [hk]; exact hk0)
 rw [hk] at k1 k2
 refine ⟨ns,hn,h.1,by rw [zjT hn]; exact h1,⟨k1,k2⟩,?_⟩
 unfold zcL
 rw [hk,if_neg hk0,if_neg (by simpa using h1),hn]
theorem zjU (s x:Bs) (r:List Bs) (hp:zdr s=x::r) (hs:s.length<=1000000000) (k:Int) (hk:zbN x=k) (hk0:k≠0) (w:World) (hv:zen w) :
  Calls Tryz.prog 21 #[S s] w fun e w'=>e=.returned (.tuple #[A (zcL x r).1,I (zcL x r).2])/\Ext w w':=by
 have hsp:∀ wx,Calls Tryz.prog 39 #[S s,S [32],I 4] wx fun e w'=>∃ cs:Array Value,e=.returned (.slice (some ⟨wx.heap.size,0,none⟩) (r.length+1) (min 4 (s.length+1)))/\w'=wx.alloc (.cells cs 9)/\cs[0]?=some (S x)/\∀ (j:Nat) u,(r.map S)[j]?=some u->cs[1+j]?=some u:=fun wx =>
  (zjA s hs wx).mono fun e w' ⟨cs,he,hw,hc⟩=>by
   rw [hp] at he hc;exact ⟨cs,he,hw,hc 0 _ rfl,fun j u hj=>hc (1+j) u (by rw [Nat.add_comm]; exact hj)⟩
 have hkk:∀ wx,Calls Tryz.prog 40 #[S x] wx fun e w'=>e=.returned (I k)/\Ext wx w':=fun wx=>by rw [<- hk]; exact zjI x wx
 have hle:r.length+1<=min 4 (s.length+1):=by have:=zp1 s; rw [hp] at this; simpa using this
 have hsh:∀ j,j < r.length->(r.getD j []).length<=1000000000:=fun j hj=>by
  have hm:r.getD j [] ∈ zdr s:=by rw [hp]; simp [hj]
  have:=zlw _ _ _ hm;omega
 have hkb:(k == 0)=false:=by simpa using hk0
 have HK:Hid (zbN x=k):=hk;clear hp hk hk0;go_enter Tryz.func21,Tryz.ntmps21
 go_wp2_with (first
  | (go_at_call 39; refine (hsp _).mono ?_; rintro e w1 ⟨cs,rfl,hw,hc,ht⟩; rw [hw])
  | (go_at_call 40; refine Calls.exts (hkk _) ?_; intro w2 e2)
  | fail)
 have b0:w2.heap[w.heap.size]?=some (.cells #[I 0,I 0,I 0,I 0] 33 (0,0)):=zcT e2;have b1:w2.heap[w.heap.size+1]?=some (.cells cs 9 (0,0)):=zdq e2;have m2:Ext w w2:=(((Ext.refl w).alloc _).alloc _).trans e2;have s2:w.heap.size+1 < w2.heap.size:=(Array.getElem?_eq_some_iff.1 b1).1;have h0:∀ wx,Ext (w2.alloc (.cells #[I k,I 0,I 0,I 0] 33)) wx->wx.cell? ⟨w2.heap.size,0,none⟩=some (I k):=fun wx hx=>zaS (zbk hx) rfl;have hr1:(1:Int)<=(r.length:Int)+1:=by omega
 have hr2:(r.length:Int)+1<=((min 4 (s.length+1):Nat):Int):=by omega
 refine zap 3 [some (.inr fun v wx=>zdF (w2.heap.size+1) wx v w2.heap.size (zaZ k)),none,none] (by kernel_rfl) (by kernel_rfl) ?_ ?_
 ·exact ⟨zpZ _ _ _,trivial,trivial,trivial⟩
 refine zbq _ rfl (fun w' hw' _=>?_) (fun v18=>?_)
 ·have hg:zaw Tryz.prog 35 #[.pointer (some ⟨w2.heap.size,0,none⟩)] w' (fun v wx=>zdF (w2.heap.size+1) wx v w2.heap.size (zaZ k)) :=
   zaw.mono (zjN w2.heap.size k w' (h0 w' hw')) (fun r w'' _ h=>zaL h (by have:=hw'.size; simpa using this))
  unfold za0;go_simp
  exact ⟨Ext.refl _,hg⟩
 iterate 2 (refine zat (fun K hK=>?_); go_simp; refine hK _ ?_; clear hK K)
 refine za5 ?_;intro w4 he4 hF;have hpo:zdF (w2.heap.size+1) w4 v18 w2.heap.size (zaZ k):=hF 18;clear hF
 have hU:∀ wx:World,wx.heap[w.heap.size+1]?=some (.cells cs 9 (0,0))->Strs wx (.slice (if min 4 (s.length+1)=1 then some ⟨w.heap.size+1,0,none⟩ else some ⟨w.heap.size+1,1,none⟩) r.length (min 4 (s.length+1) - 1)) r:=fun wx hx=>by
  by_cases h1:min 4 (s.length+1)=1
  ·rw [if_pos h1];have hr:r=[]:=List.eq_nil_of_length_eq_zero (by omega);subst hr;exact zjj hx (fun j u hj=>by simp at hj) (by simp) (by unfold maxLen; omega)
  ·rw [if_neg h1];exact zjj hx ht (by omega) (by unfold maxLen; omega)
 generalize (if min 4 (s.length+1)=1 then some (⟨w.heap.size+1,0,none⟩:Addr) else some ⟨w.heap.size+1,1,none⟩)=ad at hU ⊢;have m4:Ext w w4:=(m2.alloc _).trans he4;have b4:w4.heap[w2.heap.size]?=some (.cells #[I k,I 0,I 0,I 0] 33 (0,0)):=zbk he4;have q4:w4.heap[w.heap.size]?=some (.cells #[I 0,I 0,I 0,I 0] 33 (0,0)):=zaV (zaV b0 ((Ext.refl w2).alloc _)) he4;have g4:w4.heap[w.heap.size+1]?=some (.cells cs 9 (0,0)):=zaV (zaV b1 ((Ext.refl w2).alloc _)) he4
 have kept:∀ (j:Nat) (o:Obj) (wx:World),j < w2.heap.size->w4.heap[j]?=some o->w4.grownBy wx (some w2.heap.size)->wx.heap[j]?=some o:=fun j o wx hj ho hg=>by
  rw [hg.block j (Array.getElem?_eq_some_iff.1 ho).1 (fun e=>by simp at e; omega)]; exact ho
 have hfill:=zsv v18 (.slice ad r.length (min 4 (s.length+1) - 1)) w2.heap.size 33 #[I k,I 0,I 0,I 0] (zaZ k) r w4
  (fun wx hg=>⟨(hpo.grown (by omega) hg).ptrs,hU wx (kept _ _ wx (by omega) g4 hg),hv.ext (m4.grown hg (fun j hj=>by simp at hj; have:=m2.size; omega))⟩) b4 (zqB k) hsh
 have done:∀ wx,w4.grownBy wx (some w2.heap.size)->Ext w wx/\wx.heap[w.heap.size]?=some (.cells #[I 0,I 0,I 0,I 0] 33 (0,0)):=fun wx hg =>
  ⟨m4.grown hg (fun j hj=>by simp at hj; have:=m2.size; omega),kept _ _ wx (by omega) q4 hg⟩
 clear hU hpo kept h0 b0 b1 b4 q4 g4 ht hc hsp hkk hsh;have HS:Hid (w.heap.size+1 < w2.heap.size):=s2;clear s2;cases hfo:zfn (zaZ k) r with
 | false =>
  have HR:Hid (zcL x r=(zeroCl,2)):=zpP HK.o (by simpa using hkb) hfo;have hfill2:Calls Tryz.prog 41 #[v18,.slice ad r.length (min 4 (s.length+1) - 1)] w4 fun e w'=>e=.returned (.bool false)/\w4.grownBy w' (some w2.heap.size):=hfill.mono fun e w' ⟨he,hg,_⟩=>⟨by rw [he,hfo],hg⟩;clear hfill hfo;go_wp2_with (go_at_call 41; refine hfill2.mono ?_; rintro e w5 ⟨rfl,hg⟩; obtain ⟨m5,q5⟩:=done w5 hg; obtain ⟨c0,c1,c2,c3,f0,f1,f2,f3⟩:=zcf q5)
  have hB:=set4 q5 (I 0) (I 0) (I 0) (I 0);obtain ⟨d0,d1,d2,d3,-⟩:=zcf hB;have hE:=zbY m5 (Nat.le_refl w.heap.size) (I 0) (I 0) (I 0) (I 0);clear c0 c1 c2 c3 f0 f1 f2 f3;refine bodyPost_ret (by simp [results,Tryz.results21,go_sem,d0,d1,d2,d3]; rfl) rfl ?_;rw [HR.o];exact ⟨rfl,hE⟩
 | true =>
  obtain ⟨ns,hn,hl,hna,hk6,hread⟩:=zoI HK.o (by simpa using hkb) hfo
  have hfill2:Calls Tryz.prog 41 #[v18,.slice ad r.length (min 4 (s.length+1) - 1)] w4 fun e w'=>e=.returned (.bool true)/\w4.grownBy w' (some w2.heap.size) /\
    w'.heap[w2.heap.size]?=some (.cells #[I (mkCl k ns).kind,I (mkCl k ns).name,I (mkCl k ns).other,I (mkCl k ns).n] 33 (0,0)):=hfill.mono fun e w' ⟨he,hg,hb⟩=>⟨by rw [he,hfo],hg,by
     have:=hb ns hn hl
     rwa [zs4 hk6 hna] at this⟩
  have hwr:∀ wx,zaw Tryz.prog 42 #[.agg #[I (mkCl k ns).kind,I (mkCl k ns).name,I (mkCl k ns).other,I (mkCl k ns).n]] wx fun r _=>r=I (wrongCl (mkCl k ns)):=fun wx=>zgZ _ _ _ _ wx;clear hfill hfo hn hl hna hk6;generalize mkCl k ns=c at *;obtain ⟨ck,ca,co,cn⟩:=c;simp only [] at hfill2 hwr;generalize wrongCl ⟨ck,ca,co,cn⟩=er at *;have HR:Hid (zcL x r=if er≠0 then (zeroCl,er) else (⟨ck,ca,co,cn⟩,0)):=hread;clear hread;by_cases he0:er=0
  case neg =>
   have HE:Hid (er≠0):=he0;have heb:(er == 0)=false:=by simpa using he0
   clear he0
   go_wp2_with (first
    | (go_at_call 41; refine hfill2.mono ?_; rintro e w5 ⟨rfl,hg,hb⟩; obtain ⟨m5,q5⟩:=done w5 hg; obtain ⟨y0,y1,y2,y3,-⟩:=zcf hb)
    | (go_at_call 42; refine (hwr _).to ?_; rintro r6 w6 e6 rfl; obtain ⟨c0,c1,c2,c3,f0,f1,f2,f3⟩:=zcf (zaV q5 e6)))
   have hB:=set4 (zaV q5 e6) (I 0) (I 0) (I 0) (I 0);obtain ⟨d0,d1,d2,d3,-⟩:=zcf hB;have hE:=zbY (m5.trans e6) (Nat.le_refl w.heap.size) (I 0) (I 0) (I 0) (I 0);clear c0 c1 c2 c3 f0 f1 f2 f3;refine bodyPost_ret (by simp [results,Tryz.results21,go_sem,d0,d1,d2,d3]; rfl) rfl ?_;rw [HR.o,if_pos HE.o];exact ⟨rfl,hE⟩
  case pos =>
   subst he0
   go_wp2_with (first
    | (go_at_call 41; refine hfill2.mono ?_; rintro e w5 ⟨rfl,hg,hb⟩; obtain ⟨m5,q5⟩:=done w5 hg; obtain ⟨y0,y1,y2,y3,-⟩:=zcf hb)
    | (go_at_call 42; refine (hwr _).to ?_; rintro r6 w6 e6 rfl; obtain ⟨c0,c1,c2,c3,f0,f1,f2,f3⟩:=zcf (zaV q5 e6); obtain ⟨z0,z1,z2,z3,-⟩:=zcf (zaV hb e6)))
   have hB:=set4 (zaV q5 e6) (I ck) (I ca) (I co) (I cn);obtain ⟨d0,d1,d2,d3,-⟩:=zcf hB;have hE:=zbY (m5.trans e6) (Nat.le_refl w.heap.size) (I ck) (I ca) (I co) (I cn);clear c0 c1 c2 c3 f0 f1 f2 f3;refine bodyPost_ret (by simp [results,Tryz.results21,go_sem,d0,d1,d2,d3]; rfl) rfl ?_;rw [HR.o,if_neg (by simp)];exact ⟨rfl,hE⟩

theorem zlS (s:Bs) (hs:s.length<=1000000000) (w:World) (hv:zen w):Calls Tryz.prog 21 #[S s] w fun e w'=>e=.returned (.tuple #[A (readCl s).1,I (readCl s).2])/\Ext w w':=by
 obtain ⟨x,r,hp⟩:=zmP s
 have hr:readCl s=zcL x r:=by
  rw [<- zmj s]
  show zjS (zdr s)=_
  rw [hp]
  rfl
 rw [hr]
 by_cases hk:zbN x=0
 ·have e:zcL x r=(zeroCl,1):=by unfold zcL; rw [if_pos hk]
  rw [e]
  exact zj9 s x r hp hs hk w
 ·exact zjU s x r hp hs _ rfl hk w hv

open Go.RowKit Go.Mk

theorem zr5 (v:Value) (ws:List Bs) (w:World) (hs:Strs w v ws) (hne:ws≠[]) (hl:(zdk 32 ws).length<=140737488355328) (hn:ws.length<=140737488355328) :
  Calls Tryz.prog 37 #[v,S [32]] w fun e w'=>e=.returned (S (zdk 32 ws))/\Ext w w':=by
 obtain ⟨ao,cap,rfl,h1,h2,h3⟩:=hs.form
 have h0:0 < ws.length:=by cases ws with | nil=>exact absurd rfl hne | cons _ _=>simp
 obtain ⟨b,off,rfl,hc⟩:=h3 0 h0
 have hm:(ws.map fun l=>(⟨l.toArray⟩:ByteArray)).map (·.data.toList)=ws:=by
  rw [List.map_map]
  exact List.map_id'' (fun _=>by simp) ws
 have hlen:(ws.map fun l=>(⟨l.toArray⟩:ByteArray)).length=ws.length:=by simp
 have e:Lib.join ((ws.map fun l=>(⟨l.toArray⟩:ByteArray)).map (·.data.toList)) ([32]:List UInt8)=zdk 32 ws:=by rw [hm,znq]
 have:=Any.strings_Join (P:=Tryz.prog) (ρ:=Tryz.lays156_ren) Tryz.lays156 Tryz.Builder_Extra_156 b off cap (ws.map fun l=>(⟨l.toArray⟩:ByteArray)) ⟨#[32]⟩ w
  (fun j x hj=>by
   have hj':j < ws.length:=by rw [<- hlen]; exact (List.getElem?_eq_some_iff.1 hj).1
   obtain ⟨b',off',e',hc'⟩:=h3 j hj'
   simp only [Option.some.injEq,Addr.mk.injEq,and_true] at e'
   obtain ⟨rfl,rfl⟩:=e'
   rw [hc']
   simp [hj'] at hj
   simp [S,hj',<- hj])
  (zff hc) (by rw [hlen]; exact hn) (by rw [hlen]; exact h1) (by rw [show ((⟨#[32]⟩:ByteArray).data.toList)=[32] from rfl,e]; exact hl)
 rw [show ((⟨#[32]⟩:ByteArray).data.toList)=[32] from rfl,e,hlen] at this
 exact this

theorem ziM {n:Int} (h0:-9223372036854775808<=n) (h1:n<=9223372036854775807):(Lib.itoa n).length<=21:=Lib.itoa_length_le n h0 h1

theorem zfB {c:Cl} (h:wrongCl c=0):(callText c).length<=60:=by
 have hw:(zcF c.kind).length<=5:=by
  unfold zcF
  repeat' split
  all_goals decide
 have ha:=zjW h
 have hl:=zfU c
 have hc:=zl7 c.kind
 unfold callText zgQ
 rcases hx:argsOf c with _ | ⟨a,_ | ⟨b,_ | ⟨d,r⟩⟩⟩
 ·simp [zdk]; omega
 ·rw [hx] at ha
  have:=ziM (ha a (by simp)).1 (ha a (by simp)).2
  simp [zdk]; omega
 ·rw [hx] at ha
  have:=ziM (ha a (by simp)).1 (ha a (by simp)).2
  have:=ziM (ha b (by simp)).1 (ha b (by simp)).2
  simp [zdk]; omega
 ·rw [hx] at hl; simp at hl; omega

theorem znu (c:Cl):∀ k,k < (zaZ c.kind).length->(#[I c.kind,I c.name,I c.other,I c.n]:Array Value)[(zaZ c.kind).getD k 0]?=some (I ((argsOf c).getD k 0)):=by
 intro k hk
 obtain ⟨q,a,o,n⟩:=c
 simp only at *
 by_cases h1:q=1∨q=4
 ·have e1:zaZ q=[1,3]:=if_pos h1
  have e2:argsOf ⟨q,a,o,n⟩=[a,n]:=by rcases h1 with rfl | rfl <;> rfl
  rw [e1] at hk ⊢
  rw [e2]
  match k,hk with
  | 0,_=>rfl
  | 1,_=>rfl
 by_cases h2:q=2∨q=3
 ·have e1:zaZ q=[1]:=by unfold zaZ; rw [if_neg h1,if_pos h2]
  have e2:argsOf ⟨q,a,o,n⟩=[a]:=by rcases h2 with rfl | rfl <;> rfl
  rw [e1] at hk ⊢
  rw [e2]
  match k,hk with
  | 0,_=>rfl
 by_cases h3:q=6
 ·subst h3
  match k,hk with
  | 0,_=>rfl
  | 1,_=>rfl
 ·have e1:zaZ q=[]:=by unfold zaZ; rw [if_neg h1,if_neg h2,if_neg h3]
  rw [e1] at hk
  simp at hk

theorem Tryz.infoStr:(Tryz.prog.info? 9).map (fun i=>(i.zero,i.size,i.bytes))=some (some (.string ByteArray.empty),1,16):=by kernel_rfl

theorem zrO (c:Cl) (hc:wrongCl c=0) (w:World) (hv:zen w):Calls Tryz.prog 18 #[A c] w fun e w'=>e=.returned (S (callText c))/\Ext w w':=by
 obtain ⟨i0,hi,hz0,hz1,hz2⟩:=info_parts Tryz.infoStr;have hfa:=znu c;have hfit:=zjW hc;have hlen:=zfB hc;have hle:(zaZ c.kind).length<=2:=by rw [zdL]; exact zl7 _
 have hla:(argsOf c).length=(zaZ c.kind).length:=by rw [zfU,zdL]
 have HT:Hid (callText c=zdk 32 (zcF c.kind::(argsOf c).map Lib.itoa)):=rfl;generalize callText c=T at *;generalize argsOf c=gs at *;generalize hfs:zaZ c.kind=fs at *;have HFS:Hid (zaZ c.kind=fs):=hfs;generalize hwd:zcF c.kind=wd at *;have hword:∀ wx,Calls Tryz.prog 34 #[I c.kind] wx fun e w'=>e=.returned (S wd)/\w'=wx:=fun wx=>by rw [<- hwd]; exact zjH _ _
 have hplaces:∀ (b:Nat) (wx:World),wx.cell? ⟨b,0,none⟩=some (I c.kind)->Calls Tryz.prog 35 #[.pointer (some ⟨b,0,none⟩)] wx fun e w'=>∃ r,e=.returned r/\Ext wx w'/\zdF wx.heap.size w' r b fs:=fun b wx h=>by rw [<- hfs]; exact zjN b _ wx h
 clear hwd hfs hc;obtain ⟨ck,ca,co,cn⟩:=c;simp only [] at hword hplaces hfa;go_enter Tryz.func18,Tryz.ntmps18
 go_wp2_with (first
  | (go_at_call 34; refine Calls.same (hword _) ?_)
  | (go_at_call 35; refine (hplaces _ _ (by go_simp)).mono ?_; rintro e w1 ⟨vp,rfl,e1,hpo⟩; obtain ⟨ao,cap,rfl,h1,h2,-⟩:=hpo.ptrs.form; unfold maxLen at h2))
 have b0:w1.heap[w.heap.size]?=some (.cells #[I ck,I ca,I co,I cn] 33 (0,0)):=zcT e1;have m1:Ext w w1:=(((Ext.refl w).alloc _).alloc _).trans e1
 have ho1:w1.ownsRow w.heap.size 9 1 (.slice (some ⟨w.heap.size+1,0,none⟩) 1 1) 1 ([wd].map S):=by
  have:=World.ownsRow_lit (base:=w.heap.size) (e:=9) (size:=1) (w.alloc (.cells #[I ck,I ca,I co,I cn] 33)) #[S wd] 1 (by simp) (by decide) rfl;exact zai (by simpa using this) e1
 have hp1:zdF w.heap.size w1 (.slice ao fs.length cap) w.heap.size fs:=zaL hpo (by simp; omega);clear hpo e1 hword hplaces
 go_loopw [3,12] (fun v i wr=>∃ k:Nat,k<=fs.length/\i=I k/\wr.ownsRow w.heap.size 9 1 v (k+1) ((wd::(gs.take k).map Lib.itoa).map S)/\zdF w.heap.size wr (.slice ao fs.length cap) w.heap.size fs /\
  wr.heap[w.heap.size]?=some (.cells #[I ck,I ca,I co,I cn] 33 (0,0))/\Ext w wr) (fun _ i _=>fs.length - (intOf i).toNat)
 case atStart=>exact ⟨0,by omega,rfl,by simpa using ho1,hp1,b0,m1⟩
 case round =>
  obtain ⟨k,hk,rfl,ho,hpo,hb,he⟩:=hrel;clear ho1 hp1 b0 m1;by_cases hlt:k < fs.length
  ·obtain ⟨ao1,cap1,ea,-,-,c1⟩:=hpo.ptrs.form;simp only [Value.slice.injEq,true_and] at ea;obtain ⟨rfl,rfl⟩:=ea;obtain ⟨b1,o1,rfl,d1⟩:=c1 k hlt;have d2:wr.cell? ⟨w.heap.size,fs.getD k 0,none⟩=some (I (gs.getD k 0)):=zaS hb (hfa k hlt)
   have hmem:gs.getD k 0 ∈ gs:=by
    have hw:k < gs.length:=by omega
    simp [hw]
   obtain ⟨f1,f2⟩:=hfit _ hmem;have ex1:gs.take (k+1)=gs.take k++[gs.getD k 0]:=zfz gs k (by omega) 0;have HP:Hid (zdF w.heap.size wr (.slice (some ⟨b1,o1,none⟩) fs.length cap) w.heap.size fs):=hpo;have HB:Hid (wr.heap[w.heap.size]?=some (.cells #[I ck,I ca,I co,I cn] 33 (0,0))):=hb;have hvr:=hv.ext he;clear c1 hpo hfa hb hmem hfit hla;generalize gs.getD k 0=x at d2 f1 f2 ex1;generalize fs.getD k 0=j at d1 d2;have E1:Hid (gs.take (k+1)=gs.take k++[x]):=ex1;clear ex1
   go_wp2_with (first
    | (go_at_call 36; refine Calls.exts (zmG x f1 f2 _ hvr) ?_; intro w2 e2)
    | (at_builtin; refine zb7 ?_))
   unfold Hid
   have hlit:Row (w2.alloc (.cells #[S (Lib.itoa x)] 9)) 1 (.slice (some ⟨w2.heap.size,0,none⟩) 1 1) 1 [S (Lib.itoa x)]:=by
    have:=World.ownsRow_lit (base:=0) (e:=9) (size:=1) w2 #[S (Lib.itoa x)] 1 (Nat.zero_le _) (by decide) rfl;exact Row.of_owns this
   refine zaJ _ rfl (.tmp 16) (.tmp 21) 24 rfl w.heap.size 9 i0 (.string ByteArray.empty) 1 16 zuR hi hz0 hz1 hz2 rfl (by decide) u3 (k+1) ((wd::(gs.take k).map Lib.itoa).map S) rfl ((zai ho e2).alloc _) _ rfl 1 [S (Lib.itoa x)] hlit (zr6 [Lib.itoa x]) (by omega) (by decide) (by have:=he.size; have:=e2.size; simp; omega) ?_;intro o' w3 ho3 hg3;have he2:=(he.trans e2).alloc (.cells #[S (Lib.itoa x)] 9);have he3:Ext w w3:=he2.grown hg3 (fun j hj=>(ho.lt j hj).1);have hb2:=zaV HB.o (e2.alloc (.cells #[S (Lib.itoa x)] 9))
   have hb3:w3.heap[w.heap.size]?=some (.cells #[I ck,I ca,I co,I cn] 33 (0,0)):=by
    rw [hg3.block _ (Array.getElem?_eq_some_iff.1 hb2).1 (fun e=>zaH ((zai ho e2).alloc _) hb2 (by decide) e.symm)];exact hb2
   have hp2:zdF w.heap.size _ _ w.heap.size fs:=(zdF.ext HP.o e2).ext ((Ext.refl _).alloc (.cells #[S (Lib.itoa x)] 9));have hp3:zdF w.heap.size w3 (.slice (some ⟨b1,o1,none⟩) fs.length cap) w.heap.size fs:=World.ownsRow.kept hp2 hg3 (zdn hp2 ((zai ho e2).alloc _) (by decide));have HB3:=zhd hb3;clear hg3 hb3 hb2 hp2 he2;go_wp2
   go_roundw
   case rel =>
    refine ⟨k+1,by omega,by go_num,?_,hp3,HB3.o,he3⟩;rw [E1.o];simpa using ho3
   case measure=>simp [intOf]; omega
  ·have hkl:k=fs.length:=by omega
   have hs:Strs wr u3 (wd::gs.map Lib.itoa):=by
    rw [hkl,<- hla,List.take_of_length_le (Nat.le_refl _)] at ho;exact zlP ho
   have HE:Hid (T=zdk 32 (wd::gs.map Lib.itoa)):=HT;have hjoin:=zr5 u3 _ wr hs (by simp) (by rw [<- HE.o]; omega) (by simp; omega);rw [<- HE.o] at hjoin;clear hkl hs hpo hfa hfit hla hb ho;go_wp2_with (go_at_call 37; refine Calls.exts hjoin ?_; intro w2 e2)
   go_ret
   exact ⟨rfl,he.trans e2⟩

open Go.RowKit Go.Mk

theorem zmw {T e:TypeId} {B b:Nat} {bs:List Value} {w w':World} (h:Lib.IsBuilder T e B b bs w) (he:Ext w w'):Lib.IsBuilder T e B b bs w':=by
 rcases h with ⟨h1,v,h2,h3,h4⟩ | ⟨h1,v,h2,h3,h4⟩
 ·exact .inl ⟨h1,v,zaV h2 he,zai h3 he,h4⟩
 ·exact .inr ⟨h1,v,zaV h2 he,zai h3 he,h4⟩

theorem zkI (B:Nat) (l x:Bs) (w:World) (h:Lib.IsBuilder 72 5 B B (Lib.byteCells l) w) (hl:l.length+x.length<=140737488355328) (hB:B<=w.heap.size) :
  Calls Tryz.prog 17 #[.pointer (some ⟨B,0,none⟩),S x] w fun e w'=>e=.returned (.tuple #[I x.length,.nilIface])/\Lib.IsBuilder 72 5 B B (Lib.byteCells (l++x)) w'/\Below B w w':=by
 have hsz:(⟨x.toArray⟩:ByteArray).size=x.length:=by simp [ByteArray.size]
 have hbl:(Lib.byteCells l).length=l.length:=by simp [Lib.byteCells]
 have:=Any.Builder_WriteString (P:=Tryz.prog) (ρ:=Tryz.lays156_ren) { Tryz.lays156 with } Tryz.Builder_Extra_156 B B (Lib.byteCells l) ⟨x.toArray⟩ w h (by rw [hsz,hbl]; exact hl) hB
 refine this.mono fun e w' ⟨he,hb,hx⟩=>⟨by rw [he,hsz],.inr ?_,hx⟩
 have e1:Lib.byteCells l++Lib.strCells ⟨x.toArray⟩=Lib.byteCells (l++x):=by
  rw [Lib.byteCells_append]
  rfl
 rw [<- e1]
 exact hb

theorem zn4 (B:Nat) (l:Bs) (w:World) (h:Lib.IsBuilder 72 5 B B (Lib.byteCells l) w) (hB:B<=w.heap.size) :
  Calls Tryz.prog 19 #[.pointer (some ⟨B,0,none⟩)] w fun e w'=>e=.returned (S l)/\Below B w w' :=
 Any.Builder_String_any (P:=Tryz.prog) (ρ:=Tryz.lays156_ren) { Tryz.lays156 with } Tryz.Builder_Extra_156 B B l w h hB

theorem zor {l:List Cl} {k:Nat} (h:k < l.length):printCl (l.take (k+1))=printCl (l.take k)++callText (l.getD k zeroCl)++[10]:=by
 have:Inhabited Cl:=⟨zeroCl⟩
 rw [zfz l k h zeroCl]
 simp [printCl]
theorem zkH {l:List Cl} (h:∀ c ∈ l,wrongCl c=0):(printCl l).length<=61 * l.length:=by
 induction l with
 | nil=>simp [printCl]
 | cons c l ih =>
  have h1:=zfB (h c (by simp))
  have h2:=ih (fun d hd=>h d (by simp [hd]))
  simp [printCl] at h2 ⊢
  omega

theorem zpS (v:Value) (l:List Cl) (w:World) (hl:Cls w v l) (hr:∀ c ∈ l,wrongCl c=0) (hn:l.length<=1000000) (hv:zen w) :
  Calls Tryz.prog 10 #[v] w fun e w'=>e=.returned (S (printCl l))/\Ext w w':=by
 obtain ⟨ao,cap,rfl,h1,h2,h3⟩:=hl.form;unfold maxLen at h2;clear hl;go_enter Tryz.func10,Tryz.ntmps10
 go_wp2
 go_loopw [8] (fun i wr=>∃ k:Nat,k<=l.length/\i=I k/\Lib.IsBuilder 72 5 w.heap.size w.heap.size (Lib.byteCells (printCl (l.take k))) wr/\Ext w wr) (fun i _=>l.length - (intOf i).toNat)
 case atStart=>exact ⟨0,by omega,rfl,by simpa [printCl,Lib.byteCells] using Lib.fresh_isBuilder 72 5 w,(Ext.refl w).alloc _⟩
 case round =>
  obtain ⟨k,hk,rfl,hb,he⟩:=hrel;by_cases hlt:k < l.length
  ·obtain ⟨b,off,rfl,c1,c2,c3,c4⟩:=h3 k hlt;have d1:=he.cell c1;have d2:=he.cell c2;have d3:=he.cell c3;have d4:=he.cell c4;have hmem:l.getD k zeroCl ∈ l:=by simp [hlt]
   have hw:=hr _ hmem;have hcl:=zfB hw
   have hpl:(printCl (l.take k)).length<=61 * l.length:=by
    have:=zkH (l:=l.take k) (fun c hc=>hr c (List.mem_of_mem_take hc));rw [List.length_take] at this;omega
   have HT:Hid (printCl (l.take (k+1))=printCl (l.take k)++callText (l.getD k zeroCl)++[10]):=zor hlt;have hcall:∀ wx,zen wx->Calls Tryz.prog 18 #[A (l.getD k zeroCl)] wx fun e w'=>e=.returned (S (callText (l.getD k zeroCl)))/\Ext wx w':=fun wx hx=>zrO _ hw wx hx;have hvr:=hv.ext he;clear c1 c2 c3 c4 h3 hmem hw;generalize printCl (l.take k)=P at *;generalize callText (l.getD k zeroCl)=T at *;generalize l.getD k zeroCl=c at *;obtain ⟨ck,ca,co,cn⟩:=c;simp only [] at d1 d2 d3 d4 hcall
   have hw1:∀ wx,Ext wr wx->Calls Tryz.prog 17 #[.pointer (some ⟨w.heap.size,0,none⟩),S T] wx fun e w'=>e=.returned (.tuple #[I T.length,.nilIface])/\Lib.IsBuilder 72 5 w.heap.size w.heap.size (Lib.byteCells (P++T)) w'/\Below w.heap.size wx w':=fun wx hx =>
    zkI _ P T wx (zmw hb hx) (by omega) (by have:=he.size; have:=hx.size; omega)
   have hw2:∀ wx,Ext w wx->Lib.IsBuilder 72 5 w.heap.size w.heap.size (Lib.byteCells (P++T)) wx->Calls Tryz.prog 17 #[.pointer (some ⟨w.heap.size,0,none⟩),S [10]] wx fun e w'=>e=.returned (.tuple #[I 1,.nilIface])/\Lib.IsBuilder 72 5 w.heap.size w.heap.size (Lib.byteCells (P++T++[10])) w'/\Below w.heap.size wx w':=fun wx hx hbx =>
    zkI _ (P++T) [10] wx hbx (by simp; omega) hx.size
   go_wp2_with (first
    | (go_at_call 18; refine Calls.exts (hcall _ (hvr.ext ((Ext.refl _).alloc _))) ?_; intro w2 e2)
    | (go_at_call 17; first
      | (refine (hw2 _ m3 hb3).mono ?_; rintro e w4 ⟨rfl,hb4,x4⟩)
      | (refine (hw1 _ (((Ext.refl wr).alloc _).trans e2)).mono ?_; rintro e w3 ⟨rfl,hb3,x3⟩; have m3:Ext w w3:=Below.trans ((he.alloc _).trans e2) x3)))
   go_roundw
   case rel=>exact ⟨k+1,by omega,by go_num,by rw [HT.o]; exact hb4,Below.trans m3 x4⟩
   case measure=>simp [intOf]; omega
  ·have hkl:k=l.length:=by omega
   have hs:Calls Tryz.prog 19 #[.pointer (some ⟨w.heap.size,0,none⟩)] wr fun e w'=>e=.returned (S (printCl l))/\Below w.heap.size wr w':=by
    rw [hkl,List.take_of_length_le (Nat.le_refl _)] at hb;exact zn4 _ _ wr hb he.size
   clear hkl hb h3 hr;go_wp2_with (go_at_call 19; refine hs.mono ?_; rintro e w2 ⟨rfl,x2⟩)
   go_ret
   exact ⟨rfl,Below.trans he x2⟩

end Go.Proofs.YtdmipnnfoolelagGreatDoor

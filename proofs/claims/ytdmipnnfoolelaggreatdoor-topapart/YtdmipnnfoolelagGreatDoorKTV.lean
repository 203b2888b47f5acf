/- zbb of the proof, merged: T7 T7b Y8. -/
import Derived.Test.YtdmipnnfoolelagGreatDoorKTU
import Derived.Test.YtdmipnnfoolelagGreatDoorKTA
import Derived.Test.YtdmipnnfoolelagGreatDoorKTS
set_option maxHeartbeats 4000000
set_option maxRecDepth 100000

namespace Go.Proofs.YtdmipnnfoolelagGreatDoor
open Go.RowKit Go.Mk

theorem Tryz.infoCall:(Tryz.prog.info? 33).map (fun i=>(i.zero,i.size,i.bytes))=some (some (.agg #[.int .i64 0,.int .i64 0,.int .i64 0,.int .i64 0]),4,32):=by kernel_rfl

theorem ztd {w:World} (o:Obj) (c:Cl):Row ((w.alloc o).alloc (.cells #[I c.kind,I c.name,I c.other,I c.n] 33)) 4 (.slice (some ⟨w.heap.size+1,0,none⟩) 1 1) 1 (zb4 [c]):=by
 have:=World.ownsRow_lit (base:=0) (e:=33) (size:=4) (w.alloc o) #[I c.kind,I c.name,I c.other,I c.n] 1 (Nat.zero_le _) (by decide) rfl
 have h2:=Row.of_owns this
 simpa [zb4] using h2

def znW (q:Value):Nat:=match q with
 | .string b=>b.size
 | _=>0
theorem strLen_S (l:Bs):znW (S l)=l.length:=by simp [znW,ByteArray.size]

open Go.RowKit Go.Mk

def ztg (w:World) (r:List Cl×Int) (e:Ending) (w':World):Prop:=∃ v,e=.returned (.tuple #[v,I r.2])/\Ext w w'/\w'.ownsRow w.heap.size 33 4 v r.1.length (zb4 r.1)

theorem zoM (s:Bs) (hs:s.length<=100000000) (w:World) (hv:zen w):Calls Tryz.prog 11 #[S s] w fun e w'=>ztg w (zb2 s) e w':=by
 obtain ⟨i0,hi,hz0,hz1,hz2⟩:=info_parts Tryz.infoCall;go_enter Tryz.func11,Tryz.ntmps11
 go_wp2
 go_loopw [0,4] (fun q v wr=>∃ (r:Bs) (acc:List Cl),q=S r/\r.length+acc.length<=s.length/\wr.ownsRow w.heap.size 33 4 v acc.length (zb4 acc)/\zb2 s=zb5 acc r/\Ext w wr) (fun q _ _=>znW q)
 case atStart=>exact ⟨s,[],rfl,by simp,World.ownsRow_nil _ _ _ _,zoE s,Ext.refl w⟩
 case round =>
  obtain ⟨r,acc,rfl,hl,ho,hp,he⟩:=hrel;have HP:Hid (zb2 s=zb5 acc r):=hp;clear hp;have hvr:=hv.ext he;by_cases hr:r=[]
  ·subst hr;have hpn:=HP.o;rw [zsg] at hpn;have HN:=zhd hpn;clear hpn HP;have hcl:=zmY ho;obtain ⟨ao,cap,rfl,x1,x2,-⟩:=hcl.form;have HC:=zhd ho;unfold maxLen at x2;clear hcl ho;by_cases h8:8 < acc.length
   ·have hz:(8:Int) < (acc.length:Int):=by omega
    go_wp2
    go_ret2
    exact ⟨_,by rw [HN.o,if_pos h8]; rfl,he,by rw [HN.o,if_pos h8]; exact World.ownsRow_nil _ _ _ _⟩
   ·have hz:¬ (8:Int) < (acc.length:Int):=by omega
    go_wp2
    go_ret2
    exact ⟨_,by rw [HN.o,if_neg h8]; rfl,he,by rw [HN.o,if_neg h8]; exact HC.o⟩
  have hrb:(r == [])=false:=by simpa using hr
  by_cases hlf:(10:UInt8) ∈ r
  case neg =>
   have HN:Hid (zb2 s=([],8)):=by unfold Hid; rw [HP.o,zrb acc hr hlf]
   have hc:=fun wx=>zrJ r hlf wx;clear hlf hr;go_wp2_with (go_at_call 20; refine Calls.exts (hc _) ?_; intro w2 e2)
   go_ret2
   exact ⟨_,by rw [HN.o]; rfl,he.trans e2,by rw [HN.o]; exact World.ownsRow_nil _ _ _ _⟩
  obtain ⟨l1,r1,hre,hl1⟩:=zf8 hlf;have hrl:r.length=l1.length+(r1.length+1):=by rw [hre]; simp
  have hlen:l1.length+(r1.length+1)+acc.length<=s.length:=by rw [hrl] at hl; exact hl
  have hc:∀ wx,Calls Tryz.prog 20 #[S r,S [10]] wx fun e w'=>e=.returned (.tuple #[S l1,S r1,.bool true])/\Ext wx w':=fun wx=>by rw [hre]; exact ztt l1 r1 hl1 (by omega) wx
  have hp:=HP.o;rw [hre,zsh acc hl1] at hp;have hrc:=fun wx hx=>zlS l1 (by omega) wx hx;have HRL:=zhd hrl;clear hlf hr hl HP hl1 hre hrl;generalize readCl l1=q at hp hrc;obtain ⟨c,er⟩:=q;simp only [] at hp hrc;by_cases h0:er=0
  case neg =>
   have heb:(er == 0)=false:=by simpa using h0
   have HN:Hid (zb2 s=([],er)):=by unfold Hid; rw [hp,if_pos h0]
   clear hp h0
   go_wp2_with (first
    | (go_at_call 20; refine Calls.exts (hc _) ?_; intro w2 e2)
    | (go_at_call 21; refine Calls.exts (hrc _ (hvr.ext e2)) ?_; intro w3 e3; refine zb7 ?_))
   unfold Hid;clear hi hz0 hz1 hz2 hc hrc hlen hs hvr ho;go_wp2
   go_ret2
   exact ⟨_,by rw [HN.o]; rfl,((he.trans e2).trans e3).alloc _,by rw [HN.o]; exact World.ownsRow_nil _ _ _ _⟩
  subst h0;have HN:Hid (zb2 s=zb5 (acc++[c]) r1):=by unfold Hid; rw [hp,if_neg (by simp)]
  clear hp
  go_wp2_with (first
   | (go_at_call 20; refine Calls.exts (hc _) ?_; intro w2 e2)
   | (go_at_call 21; refine Calls.exts (hrc _ (hvr.ext e2)) ?_; intro w3 e3)
   | (at_builtin; refine zb7 ?_))
  unfold Hid;refine zaJ _ rfl (.tmp 28) (.tmp 30) 46 rfl w.heap.size 33 i0 (.agg #[.int .i64 0,.int .i64 0,.int .i64 0,.int .i64 0]) 4 32 zof hi hz0 hz1 hz2 rfl (by decide) u4 acc.length (zb4 acc) rfl (((zai ho (e2.trans e3)).alloc _).alloc _) _ rfl 1 (zb4 [c]) (ztd _ c) (znP [c]) (by omega) (by decide) (by have:=he.size; have:=e2.size; have:=e3.size; simp; omega) ?_;intro o' w4 ho4 hg4;have he4:Ext w w4:=((((he.trans e2).trans e3).alloc _).alloc _).grown hg4 (fun j hj=>(ho.lt j hj).1)
  have ho5:w4.ownsRow w.heap.size 33 4 o' (acc++[c]).length (zb4 (acc++[c])):=by
   rw [zj3,List.length_append];exact ho4
  clear hg4 hi hz0 hz1 hz2 hc hrc ho ho4 hvr;go_wp2
  go_roundw
  case rel=>exact ⟨r1,acc++[c],rfl,by simp; omega,ho5,HN.o,he4⟩
  case measure =>
   rw [strLen_S,strLen_S,HRL.o];omega

open Go.RowKit Go.Mk

theorem zir (l:List Cl):zaR l=zb4 l:=rfl
theorem zln:TextOk zen where
 ext:=fun _ _ h he=>h.ext he
 parse:=fun s w hv hs=>Calls.mono (zoM s (by omega) w hv) fun _ w' ⟨v,he,hx,ho⟩=>⟨_,he,hx,v,rfl,by rw [zir]; exact ho⟩
 len:=fun _ h=>zkH h
 print:=fun v l w hv hl hr hn=>Calls.mono (zpS v l w (by
  have q:Row w 4 v l.length (zaR l):=(zcc (f:=fun (x:Cl)=>[I x.kind,I x.name,I x.other,I x.n]) (fun _=>rfl)).1 hl
  rw [zir] at q
  exact q) hr (by omega) hv) fun _ w' ⟨he,hx⟩=>⟨_,he,hx,rfl⟩

end Go.Proofs.YtdmipnnfoolelagGreatDoor

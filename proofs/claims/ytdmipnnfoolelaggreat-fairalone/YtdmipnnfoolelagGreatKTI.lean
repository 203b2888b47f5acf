/- Texts of the proof, merged: M1a M1b E1 E2 E3 E4 E5 E6 E7. -/
import Derived.Test.YtdmipnnfoolelagGreatKTH
import Derived.Test.YtdmipnnfoolelagGreatKTB
import Derived.BigRegion
import Derived.Test.YtdmipnnfoolelagGreatKTC
import Derived.Lib.Hide
import Derived.Test.YtdmipnnfoolelagGreatKTA
import Derived.Laws.BitsAllLaws
set_option maxHeartbeats 2000000
set_option maxRecDepth 100000

namespace Go.Proofs.YtdmipnnfoolelagGreat
open Go.RowKit Go.Mk

theorem zdn (n a b:Int) (w:World) :
  Calls Tryz.prog 71 #[I n,I a,I b] w fun e w'=>e=.returned (.bool (decide (a<=n/\n<=b)))/\w'=w:=by
 by_cases hi:a<=n
 ·go_enter Tryz.func71,Tryz.ntmps71
  go_wp2
  go_ret
  exact ⟨by simp [hi],rfl⟩
 ·go_enter Tryz.func71,Tryz.ntmps71
  go_wp2
  go_ret
  exact ⟨by simp; omega,rfl⟩

theorem zjR (n:Int) (has:Bool) (w:World) :
  Calls Tryz.prog 72 #[I n,.bool has] w fun e w'=>e=.returned (.bool (if has then decide (1<=n/\n<=255) else n == 0))/\w'=w:=by
 cases has
 ·go_enter Tryz.func72,Tryz.ntmps72
  go_wp2
  go_ret
  exact ⟨by simp,rfl⟩
 ·go_enter Tryz.func72,Tryz.ntmps72
  go_wp2_with (go_at_call 71; refine Calls.same (zdn _ _ _ _) ?_)
  go_ret
  exact ⟨by simp,rfl⟩

theorem ziq (n:Int) (has:Bool) (w:World) :
  Calls Tryz.prog 73 #[I n,.bool has] w fun e w'=>e=.returned (.bool (if has then decide (-1073741824<=n/\n<=1073741824) else n == 0))/\w'=w:=by
 cases has
 ·go_enter Tryz.func73,Tryz.ntmps73
  go_wp2
  go_ret
  exact ⟨by simp,rfl⟩
 ·go_enter Tryz.func73,Tryz.ntmps73
  go_wp2_with (go_at_call 71; refine Calls.same (zdn _ _ _ _) ?_)
  go_ret
  exact ⟨by simp,rfl⟩

theorem zjN (k a o n:Int) (w:World):zaV Tryz.prog 63 #[.agg #[I k,I a,I o,I n]] w fun r _=>r=I (wrongCl ⟨k,a,o,n⟩):=by
 unfold zaV;by_cases hk:1<=k/\k<=6
 case neg =>
  have hk':decide (1<=k/\k<=6)=false:=by simpa using hk
  go_enter Tryz.func63,Tryz.ntmps63
  go_wp2_with (go_at_call 71; refine Calls.same (zdn _ _ _ _) ?_)
  go_ret
  exact zkI ((Ext.refl w).alloc _) (congrArg I (show 1=_ by simp only [wrongCl]; rw [if_pos hk]))
 have hk2:k=1∨k=2∨k=3∨k=4∨k=5∨k=6:=by omega
 clear hk;rcases hk2 with rfl | rfl | rfl | rfl | rfl | rfl
 all_goals
  go_enter Tryz.func63,Tryz.ntmps63
  go_wp2_with (first
   | (go_at_call 71; refine Calls.same (zdn _ _ _ _) ?_)
   | (go_at_call 72; refine Calls.same (zjR _ _ _) ?_)
   | (go_at_call 73; refine Calls.same (ziq _ _ _) ?_))
 all_goals
  go_ret
  refine zkI ((Ext.refl w).alloc _) ?_
  first | refine congrArg I (show 0=_ from ?_) | refine congrArg I (show 7=_ from ?_) | refine congrArg I (show 3=_ from ?_)
  simp only [Bool.not_eq_eq_eq_not,Bool.not_true,Bool.not_false,decide_eq_true_eq,decide_eq_false_iff_not,beq_iff_eq,beq_eq_false_iff_ne] at *
  unfold wrongCl
  dsimp only
  repeat' split
  all_goals omega

open Go.RowKit Go.Mk

theorem zfE (k a o n:Int) (w:World):Calls Tryz.prog 24 #[.agg #[I k,I a,I o,I n]] w fun e w'=>e=.returned (I (wrongCl ⟨k,a,o,n⟩))/\Ext w w':=by
 have hk2:k < 1∨6 < k∨k=1∨k=2∨k=3∨k=4∨k=5∨k=6:=by omega
 rcases hk2 with hk | hk | rfl | rfl | rfl | rfl | rfl | rfl
 all_goals
  go_enter Tryz.func24,Tryz.ntmps24
  go_wp2
 all_goals
  go_ret
  refine ⟨zei ?_,(Ext.refl w).alloc _⟩
  unfold wrongCl
  dsimp only
  repeat' split
  all_goals omega

open Go.RowKit Go.Mk

abbrev RQ (r:Rq):Value:=.agg #[I r.client,I r.token,I r.call.kind,I r.call.name,I r.call.other,I r.call.n]
abbrev AN (a:An):Value:=.agg #[I a.client,I a.token,I a.reply.err,I a.reply.n]

theorem zer (n a b:Int) (w:World) :
  Calls Tryz.prog 132 #[I n,I a,I b] w fun e w'=>e=.returned (.bool (decide (a<=n/\n<=b)))/\w'=w:=by
 by_cases hi:a<=n
 ·go_enter Tryz.func132,Tryz.ntmps132
  go_wp2
  go_ret
  exact ⟨by simp [hi],rfl⟩
 ·go_enter Tryz.func132,Tryz.ntmps132
  go_wp2
  go_ret
  exact ⟨by simp; omega,rfl⟩

theorem zdE (c t:Int) (w:World) :
  Calls Tryz.prog 119 #[I c,I t] w fun e w'=>e=.returned (.bool (decide (0<=c/\c < 3/\0<=t/\t < 8)))/\w'=w:=by
 by_cases hi:0<=c/\c<=2
 ·have hi':decide (0<=c/\c<=2)=true:=by simp [hi]
  go_enter Tryz.func119,Tryz.ntmps119
  go_wp2_with (go_at_call 132; refine Calls.same (zer _ _ _ _) ?_)
  go_ret
  exact ⟨zcS (by rw [Bool.eq_iff_iff]; simp; omega),rfl⟩
 ·have hi':decide (0<=c/\c<=2)=false:=by simpa using hi
  go_enter Tryz.func119,Tryz.ntmps119
  go_wp2_with (go_at_call 132; refine Calls.same (zer _ _ _ _) ?_)
  go_ret
  exact ⟨zcS (by rw [Bool.eq_iff_iff]; simp; omega),rfl⟩

theorem zej (c t:Int) (w:World) :
  Calls Tryz.prog 78 #[I c,I t] w fun e w'=>e=.returned (.bool (decide (0<=c/\c < 3/\0<=t/\t < 8)))/\w'=w:=by
 by_cases h0:0<=c
 ·by_cases h1:c < 3
  ·by_cases h2:0<=t
   ·go_enter Tryz.func78,Tryz.ntmps78
    go_wp2
    go_ret
    exact ⟨zcS (by rw [Bool.eq_iff_iff]; simp; omega),rfl⟩
   ·go_enter Tryz.func78,Tryz.ntmps78
    go_wp2
    go_ret
    exact ⟨zcS (by rw [Bool.eq_iff_iff]; simp; omega),rfl⟩
  ·go_enter Tryz.func78,Tryz.ntmps78
   go_wp2
   go_ret
   exact ⟨zcS (by rw [Bool.eq_iff_iff]; simp; omega),rfl⟩
 ·go_enter Tryz.func78,Tryz.ntmps78
  go_wp2
  go_ret
  exact ⟨zcS (by rw [Bool.eq_iff_iff]; simp; omega),rfl⟩

theorem zgx (e0 n:Int) (w:World) :
  Calls Tryz.prog 120 #[.agg #[I e0,I n]] w fun e w'=>e=.returned (.bool (decide (¬ (e0 < 0∨12 < e0∨1073741824 < n∨n < -1073741824∨(0 < e0/\n≠0)))))/\Ext w w':=by
 by_cases hz:e0=0
 ·subst hz;go_enter Tryz.func120,Tryz.ntmps120
  go_wp2_with (go_at_call 132; refine Calls.same (zer _ _ _ _) ?_)
  go_ret
  exact ⟨zcS (by rw [Bool.eq_iff_iff]; simp; omega),(Ext.refl w).alloc _⟩
 have hz':(e0 == 0)=false:=by simpa using hz
 by_cases hi:0<=e0/\e0<=12
 ·have hi':decide (0<=e0/\e0<=12)=true:=by simp [hi]
  go_enter Tryz.func120,Tryz.ntmps120
  go_wp2_with (go_at_call 132; refine Calls.same (zer _ _ _ _) ?_)
  go_ret
  refine ⟨zcS ?_,(Ext.refl w).alloc _⟩;rw [Bool.eq_iff_iff]; simp; omega
 ·have hi':decide (0<=e0/\e0<=12)=false:=by simpa using hi
  go_enter Tryz.func120,Tryz.ntmps120
  go_wp2_with (go_at_call 132; refine Calls.same (zer _ _ _ _) ?_)
  go_ret
  exact ⟨zcS (by rw [Bool.eq_iff_iff]; simp; omega),(Ext.refl w).alloc _⟩

open Go.RowKit Go.Mk

theorem zjs {c t k a o n:Int} (h:¬ (0<=c/\c < 3/\0<=t/\t < 8)):zbH ⟨c,t,⟨k,a,o,n⟩⟩=3:=if_pos h
theorem zik {c t k a o n:Int} (h:0<=c/\c < 3/\0<=t/\t < 8):zbH ⟨c,t,⟨k,a,o,n⟩⟩=wrongCl ⟨k,a,o,n⟩:=if_neg (by simp [h])

theorem zh1 (c t k a o n:Int) (w:World) :
  Calls Tryz.prog 114 #[RQ ⟨c,t,⟨k,a,o,n⟩⟩] w fun e w'=>e=.returned (I (zbH ⟨c,t,⟨k,a,o,n⟩⟩))/\Ext w w':=by
 by_cases hi:0<=c/\c < 3/\0<=t/\t < 8
 ·have hi':decide (0<=c/\c < 3/\0<=t/\t < 8)=true:=decide_eq_true hi;rw [zik hi];clear hi;go_enter Tryz.func114,Tryz.ntmps114
  go_wp2_with (go_at_call 119; refine Calls.same (zdE _ _ _) ?_)
  refine (zjN k a o n _).to fun r w1 e1 hr=>?_;subst hr;go_wp2
  go_ret
  exact ⟨rfl,((Ext.refl w).alloc _).trans e1⟩
 ·have hi':decide (0<=c/\c < 3/\0<=t/\t < 8)=false:=decide_eq_false hi;rw [zjs hi];clear hi;go_enter Tryz.func114,Tryz.ntmps114
  go_wp2_with (go_at_call 119; refine Calls.same (zdE _ _ _) ?_)
  go_ret
  exact ⟨rfl,(Ext.refl w).alloc _⟩

theorem zgW (c t k a o n:Int) (w:World) :
  Calls Tryz.prog 68 #[RQ ⟨c,t,⟨k,a,o,n⟩⟩] w fun e w'=>e=.returned (I (zbH ⟨c,t,⟨k,a,o,n⟩⟩))/\Ext w w':=by
 by_cases hi:0<=c/\c < 3/\0<=t/\t < 8
 ·have hi':decide (0<=c/\c < 3/\0<=t/\t < 8)=true:=decide_eq_true hi;rw [zik hi];clear hi;go_enter Tryz.func68,Tryz.ntmps68
  go_wp2_with (go_at_call 78; refine Calls.same (zej _ _ _) ?_)
  refine Calls.exts (zfE k a o n _) (fun w1 e1=>?_);go_wp2
  go_ret
  exact ⟨rfl,((Ext.refl w).alloc _).trans e1⟩
 ·have hi':decide (0<=c/\c < 3/\0<=t/\t < 8)=false:=decide_eq_false hi;rw [zjs hi];clear hi;go_enter Tryz.func68,Tryz.ntmps68
  go_wp2_with (go_at_call 78; refine Calls.same (zej _ _ _) ?_)
  go_ret
  exact ⟨rfl,(Ext.refl w).alloc _⟩

theorem zjE {c t e n:Int} (h:¬ (0<=c/\c < 3/\0<=t/\t < 8)):zbw ⟨c,t,⟨e,n⟩⟩=3:=if_pos (.inl h)
theorem zdS {c t e n:Int} (_h:0<=c/\c < 3/\0<=t/\t < 8) (h2:e < 0∨12 < e∨1073741824 < n∨n < -1073741824∨(0 < e/\n≠0)):zbw ⟨c,t,⟨e,n⟩⟩=3:=if_pos (.inr h2)
theorem zha {c t e n:Int} (h:0<=c/\c < 3/\0<=t/\t < 8) (h2:¬ (e < 0∨12 < e∨1073741824 < n∨n < -1073741824∨(0 < e/\n≠0))):zbw ⟨c,t,⟨e,n⟩⟩=0:=if_neg (not_or.2 ⟨by simp [h],h2⟩)

theorem zir (c t e0 n:Int) (w:World) :
  Calls Tryz.prog 108 #[AN ⟨c,t,⟨e0,n⟩⟩] w fun e w'=>e=.returned (I (zbw ⟨c,t,⟨e0,n⟩⟩))/\Ext w w':=by
 by_cases hi:0<=c/\c < 3/\0<=t/\t < 8
 case neg =>
  have hi':decide (0<=c/\c < 3/\0<=t/\t < 8)=false:=decide_eq_false hi;rw [zjE hi];clear hi;go_enter Tryz.func108,Tryz.ntmps108
  go_wp2_with (go_at_call 119; refine Calls.same (zdE _ _ _) ?_)
  go_ret
  exact ⟨rfl,(Ext.refl w).alloc _⟩
 have hi':decide (0<=c/\c < 3/\0<=t/\t < 8)=true:=decide_eq_true hi;by_cases hj:e0 < 0∨12 < e0∨1073741824 < n∨n < -1073741824∨(0 < e0/\n≠0)
 ·have hj':decide (¬ (e0 < 0∨12 < e0∨1073741824 < n∨n < -1073741824∨(0 < e0/\n≠0)))=false:=decide_eq_false (fun h=>h hj);rw [zdS hi hj];have hR:=fun wx=>zgx e0 n wx;rw [hj'] at hR;clear hi hj hj';go_enter Tryz.func108,Tryz.ntmps108
  go_wp2_with (first | (go_at_call 119; refine Calls.same (zdE _ _ _) ?_) | (go_at_call 120; refine Calls.exts (hR _) (fun w1 e1=>?_)))
  go_ret
  exact ⟨rfl,((Ext.refl w).alloc _).trans e1⟩
 ·have hj':decide (¬ (e0 < 0∨12 < e0∨1073741824 < n∨n < -1073741824∨(0 < e0/\n≠0)))=true:=decide_eq_true hj;rw [zha hi hj];have hR:=fun wx=>zgx e0 n wx;rw [hj'] at hR;clear hi hj hj';go_enter Tryz.func108,Tryz.ntmps108
  go_wp2_with (first | (go_at_call 119; refine Calls.same (zdE _ _ _) ?_) | (go_at_call 120; refine Calls.exts (hR _) (fun w1 e1=>?_)))
  go_ret
  exact ⟨rfl,((Ext.refl w).alloc _).trans e1⟩

theorem zhm (c t e0 n:Int) (w:World) :
  Calls Tryz.prog 66 #[AN ⟨c,t,⟨e0,n⟩⟩] w fun e w'=>e=.returned (I (zbw ⟨c,t,⟨e0,n⟩⟩))/\Ext w w':=by
 by_cases hi:0<=c/\c < 3/\0<=t/\t < 8
 case neg =>
  have hi':decide (0<=c/\c < 3/\0<=t/\t < 8)=false:=decide_eq_false hi;rw [zjE hi];clear hi;go_enter Tryz.func66,Tryz.ntmps66
  go_wp2_with (go_at_call 78; refine Calls.same (zej _ _ _) ?_)
  go_ret
  exact ⟨rfl,(((Ext.refl w).alloc _).alloc _)⟩
 have hi':decide (0<=c/\c < 3/\0<=t/\t < 8)=true:=decide_eq_true hi;have h5:e0 < 0∨12 < e0∨1073741824 < n∨n < -1073741824∨(0 < e0/\n≠0)∨¬ (e0 < 0∨12 < e0∨1073741824 < n∨n < -1073741824∨(0 < e0/\n≠0)):=by omega
 have e1:Ext w (((w.alloc (.cells #[I c,I t,I e0,I n] 100)).alloc (.cells #[I e0,I n] 40))):=(((Ext.refl w).alloc _).alloc _);have HI:=zhd hi;clear hi;by_cases q1:e0 < 0
 ·rw [zdS HI.o (.inl q1)];go_enter Tryz.func66,Tryz.ntmps66
  go_wp2_with (go_at_call 78; refine Calls.same (zej _ _ _) ?_)
  go_ret
  exact ⟨rfl,e1⟩
 by_cases q2:12 < e0
 ·rw [zdS HI.o (.inr (.inl q2))];go_enter Tryz.func66,Tryz.ntmps66
  go_wp2_with (go_at_call 78; refine Calls.same (zej _ _ _) ?_)
  go_ret
  exact ⟨rfl,e1⟩
 by_cases q3:1073741824 < n
 ·rw [zdS HI.o (.inr (.inr (.inl q3)))];go_enter Tryz.func66,Tryz.ntmps66
  go_wp2_with (go_at_call 78; refine Calls.same (zej _ _ _) ?_)
  go_ret
  exact ⟨rfl,e1⟩
 by_cases q4:n < -1073741824
 ·rw [zdS HI.o (.inr (.inr (.inr (.inl q4))))];go_enter Tryz.func66,Tryz.ntmps66
  go_wp2_with (go_at_call 78; refine Calls.same (zej _ _ _) ?_)
  go_ret
  exact ⟨rfl,e1⟩
 by_cases q5:0 < e0
 ·by_cases q6:n=0
  ·rw [zha HI.o (by omega)];have q7:(n != 0)=false:=by simp [q6]
   go_enter Tryz.func66,Tryz.ntmps66
   go_wp2_with (go_at_call 78; refine Calls.same (zej _ _ _) ?_)
   go_ret
   exact ⟨rfl,(((Ext.refl w).alloc _).alloc _)⟩
  ·rw [zdS HI.o (.inr (.inr (.inr (.inr ⟨q5,q6⟩))))];have q7:(n != 0)=true:=by simpa using q6
   go_enter Tryz.func66,Tryz.ntmps66
   go_wp2_with (go_at_call 78; refine Calls.same (zej _ _ _) ?_)
   go_ret
   exact ⟨rfl,e1⟩
 ·rw [zha HI.o (by omega)];go_enter Tryz.func66,Tryz.ntmps66
  go_wp2_with (go_at_call 78; refine Calls.same (zej _ _ _) ?_)
  go_ret
  exact ⟨rfl,e1⟩

open Go.RowKit Go.Mk

theorem zfP (v:Value) (l:List UInt8) (m:UInt8) (n:Nat) (hn:0 < n) (w:World) (hv:zba w v l) :
  Calls Tryz.prog 106 #[v,U m,I n] w fun e w'=>e=.returned (.bool (decide (l.length=n/\l.getD 0 0=m)))/\w'=w:=by
 obtain ⟨ao,cap,rfl,h1,h2,h3⟩:=hv.form;unfold maxLen at h2;clear hv;by_cases hl:l.length=n
 ·obtain ⟨b,off,rfl,hc⟩:=h3 0 (by omega);clear h3;simp only [Nat.add_zero] at hc;rw [hl] at h1 ⊢;generalize l.getD 0 0=x at *
  have hu:((x.toNat:Int) == (m.toNat:Int))=decide (x=m):=by
   rw [Bool.eq_iff_iff]; simp; exact ⟨fun h=>UInt8.toNat_inj.1 (by omega),fun h=>by rw [h]⟩
  go_enter Tryz.func106,Tryz.ntmps106
  go_wp2
  go_ret
  exact ⟨by simp,rfl⟩
 ·have hne:(((l.length:Int)) == (n:Int))=false:=by rw [beq_eq_false_iff_ne]; omega
  clear h3;go_enter Tryz.func106,Tryz.ntmps106
  go_wp2
  go_ret
  exact ⟨by simp [hl],rfl⟩

theorem ziH (x y i m:Nat) (hm:m=2 ^ i) (h:y < m):(x * m) ||| y=x * m+y:=by
 subst hm
 rw [<- Nat.shiftLeft_eq,Nat.shiftLeft_add_eq_or_of_lt h]

theorem zsh (a b c d:Nat) (ha:a < 256) (hb:b < 256) (hc:c < 256) (hd:d < 256) :
  bits BinOp.or IntKind.u32 (bits BinOp.or IntKind.u32 (bits BinOp.or IntKind.u32 ((a:Int) % 4294967296 * 16777216 % 4294967296) ((b:Int) % 4294967296 * 65536 % 4294967296)) ((c:Int) % 4294967296 * 256 % 4294967296)) ((d:Int) % 4294967296)
   = ((((a * 256+b) * 256+c) * 256+d:Nat):Int):=by
 have e0:((a:Int) % 4294967296 * 16777216 % 4294967296)=((a * 16777216:Nat):Int):=by omega
 have e1:((b:Int) % 4294967296 * 65536 % 4294967296)=((b * 65536:Nat):Int):=by omega
 have e2:((c:Int) % 4294967296 * 256 % 4294967296)=((c * 256:Nat):Int):=by omega
 have e3:((d:Int) % 4294967296)=((d:Nat):Int):=by omega
 rw [e0,e1,e2,e3,u32_or_nat _ _ (by omega) (by omega),ziH a (b * 65536) 24 16777216 (by decide) (by omega),
  show a * 16777216+b * 65536=(a * 256+b) * 65536 by omega,u32_or_nat _ _ (by omega) (by omega),ziH (a * 256+b) (c * 256) 16 65536 (by decide) (by omega),
  show (a * 256+b) * 65536+c * 256=((a * 256+b) * 256+c) * 256 by omega,u32_or_nat _ _ (by omega) (by omega),ziH _ d 8 256 (by decide) (by omega)]

theorem zjo (n:Nat) (h:n < 4294967296):wrap64 (wrap32 (n:Int))=zlV n:=by
 unfold wrap64 wrap32 zlV
 split <;> omega

theorem znj (a b c d:UInt8):wrap64 (wrap32 (bits BinOp.or IntKind.u32 (bits BinOp.or IntKind.u32 (bits BinOp.or IntKind.u32 ((a.toNat:Int) % 4294967296 * 16777216 % 4294967296) ((b.toNat:Int) % 4294967296 * 65536 % 4294967296)) ((c.toNat:Int) % 4294967296 * 256 % 4294967296)) ((d.toNat:Int) % 4294967296)))=numB [a,b,c,d]:=by
 have ha:=a.toNat_lt
 have hb:=b.toNat_lt
 have hc:=c.toNat_lt
 have hd:=d.toNat_lt
 rw [zsh _ _ _ _ ha hb hc hd,zjo _ (by omega)]
 rfl

theorem zjD (v:Value) (a b c d:UInt8) (w:World) (hv:zba w v [a,b,c,d]) :
  Calls Tryz.prog 107 #[v] w fun e w'=>e=.returned (I (numB [a,b,c,d]))/\Ext w w':=by
 obtain ⟨ao,cap,rfl,h1,h2,h3⟩:=hv.form;unfold maxLen at h2;clear hv;obtain ⟨b0,off,rfl,c0⟩:=h3 0 (by simp);obtain ⟨_,_,e1,c1⟩:=h3 1 (by simp);obtain ⟨_,_,e2,c2⟩:=h3 2 (by simp);obtain ⟨_,_,e3,c3⟩:=h3 3 (by simp);simp only [Option.some.injEq,Addr.mk.injEq,and_true] at e1 e2 e3;obtain ⟨rfl,rfl⟩:=e1;obtain ⟨rfl,rfl⟩:=e2;obtain ⟨rfl,rfl⟩:=e3;clear h3;simp only [Nat.add_zero,List.getD_cons_zero,List.getD_cons_succ,List.length_cons,List.length_nil] at *;go_enter Tryz.func107,Tryz.ntmps107
 go_wp2_with fail
 go_region
 go_wp2
 go_ret
 exact ⟨zei (znj a b c d),(Ext.refl w).drew⟩

theorem znL (v:Value) (a b c d:UInt8) (w:World) (hv:zba w v [a,b,c,d]) :
  Calls Tryz.prog 65 #[v] w fun e w'=>e=.returned (I (numB [a,b,c,d]))/\Ext w w':=by
 obtain ⟨ao,cap,rfl,h1,h2,h3⟩:=hv.form;unfold maxLen at h2;clear hv;obtain ⟨b0,off,rfl,c0⟩:=h3 0 (by simp);obtain ⟨_,_,e1,c1⟩:=h3 1 (by simp);obtain ⟨_,_,e2,c2⟩:=h3 2 (by simp);obtain ⟨_,_,e3,c3⟩:=h3 3 (by simp);simp only [Option.some.injEq,Addr.mk.injEq,and_true] at e1 e2 e3;obtain ⟨rfl,rfl⟩:=e1;obtain ⟨rfl,rfl⟩:=e2;obtain ⟨rfl,rfl⟩:=e3;clear h3;simp only [Nat.add_zero,List.getD_cons_zero,List.getD_cons_succ,List.length_cons,List.length_nil] at *;go_enter Tryz.func65,Tryz.ntmps65
 go_wp2
 go_loop [3,5] (fun u i=>(i=I 0/\u=.int .u32 0)∨(i=I 1/\u=.int .u32 (a.toNat:Int))∨(i=I 2/\u=.int .u32 ((a.toNat * 256+b.toNat:Nat):Int))∨(i=I 3/\u=.int .u32 (((a.toNat * 256+b.toNat) * 256+c.toNat:Nat):Int)) ∨
   (i=I 4/\u=.int .u32 ((((a.toNat * 256+b.toNat) * 256+c.toNat) * 256+d.toNat:Nat):Int))) (fun _ i=>4 - (intOf i).toNat)
 case atStart=>exact .inl ⟨rfl,rfl⟩
 case round =>
  have ha:=a.toNat_lt;have hb:=b.toNat_lt;have hc:=c.toNat_lt;have hd:=d.toNat_lt;rcases hrel with ⟨rfl,rfl⟩ | ⟨rfl,rfl⟩ | ⟨rfl,rfl⟩ | ⟨rfl,rfl⟩ | ⟨rfl,rfl⟩
  ·go_wp2
   go_round
   case rel=>exact .inr (.inl ⟨rfl,by simp⟩)
   case measure=>simp [intOf]
  ·go_wp2
   go_round
   case rel=>exact .inr (.inr (.inl ⟨rfl,congrArg (Value.int .u32) (by omega)⟩))
   case measure=>simp [intOf]
  ·go_wp2
   go_round
   case rel=>exact .inr (.inr (.inr (.inl ⟨rfl,congrArg (Value.int .u32) (by omega)⟩)))
   case measure=>simp [intOf]
  ·go_wp2
   go_round
   case rel=>exact .inr (.inr (.inr (.inr ⟨rfl,congrArg (Value.int .u32) (by omega)⟩)))
   case measure=>simp [intOf]
  ·go_wp2
   go_ret
   exact ⟨zei (Eq.trans (congrArg (fun x=>wrap64 (wrap32 x)) (by omega)) (zjo (((a.toNat * 256+b.toNat) * 256+c.toNat) * 256+d.toNat) (by omega))),Ext.refl w⟩

open Go.RowKit Go.Mk

theorem Tryz.infoByte:(Tryz.prog.info? 5).map (fun i=>(i.zero,i.size,i.bytes))=some (some (.int .u8 0),1,1):=by kernel_rfl

theorem byteU (n:Int):(Value.int .u8 (n % 256))=U (Mk.byteOf n):=by
 unfold Mk.byteOf
 refine congrArg (Value.int .u8) ?_
 rw [UInt8.toNat_ofNat']
 omega

theorem zjO (n:Int):[Value.int .u8 (n % 4294967296 / 16777216),.int .u8 (n % 4294967296 / 65536 % 256),.int .u8 (n % 4294967296 / 256 % 256),.int .u8 (n % 256)]=(zdB n).map U:=by
 unfold zdB u32
 simp only [List.map_cons,List.map_nil,U,UInt8.toNat_ofNat']
 refine congr (congrArg List.cons (congrArg (Value.int .u8) ?_)) (congr (congrArg List.cons (congrArg (Value.int .u8) ?_)) (congr (congrArg List.cons (congrArg (Value.int .u8) ?_)) (congrArg (fun x=>[Value.int .u8 x]) ?_)))
 all_goals omega

theorem zlY (n:Int) (w:World) :
  Calls Tryz.prog 67 #[I n] w fun e w'=>e=.returned (.string ⟨(zdB n).toArray⟩)/\Ext w w':=by
 have hcv:=zfe (P:=Tryz.prog) (zgM (w:=w) 5 (zdB n) #[.int .u8 (n % 4294967296 / 16777216),.int .u8 (n % 4294967296 / 65536 % 256),.int .u8 (n % 4294967296 / 256 % 256),.int .u8 (n % 256)] 4 (zjO n) rfl (by decide)) zjf zu5 zu9;go_enter Tryz.func67,Tryz.ntmps67
 go_wp2
 go_ret
 exact ⟨rfl,(Ext.refl w).alloc _⟩

theorem zfq (base:Nat) (v:Value) (cs:List Value) (k:Nat) (n:Int) (w:World) (hv:w.ownsRow base 5 1 v k cs) (hk:k<=100) (hb:base<=w.heap.size) :
  Calls Tryz.prog 98 #[v,I n] w fun e w'=>∃ v',e=.returned v'/\w'.ownsRow base 5 1 v' (k+4) (cs++(zdB n).map U)/\w.grownBy w' v.ownBlock:=by
 have hlit:=zgM (w:=w) 5 (zdB n) #[.int .u8 (n % 4294967296 / 16777216),.int .u8 (n % 4294967296 / 65536 % 256),.int .u8 (n % 4294967296 / 256 % 256),.int .u8 (n % 256)] 4 (zjO n) rfl (by decide);have hgr:w.grownBy (w.alloc (.cells #[.int .u8 (n % 4294967296 / 16777216),.int .u8 (n % 4294967296 / 65536 % 256),.int .u8 (n % 4294967296 / 256 % 256),.int .u8 (n % 256)] 5)) v.ownBlock:=Ext.grownBy ((Ext.refl w).alloc _) _;have HV:=zhd hv;clear hv;go_enter Tryz.func98,Tryz.ntmps98
 go_wp2_with (at_builtin; refine zbv ?_)
 unfold Hid;obtain ⟨i0,hi,hz0,hz1,hz2⟩:=info_parts Tryz.infoByte;refine zay _ rfl (.tmp 8) (.tmp 20) 78 rfl base 5 i0 (.int .u8 0) 1 1 zjf hi hz0 hz1 hz2 rfl (by decide) v k cs rfl (HV.o.alloc _) _ rfl 4 ((zdB n).map U) hlit (zlP _) (by omega) (by decide) (by simp; omega) ?_;intro v' w' ho hg;clear hi hz0 hz1 hz2 hlit;go_wp2
 go_ret
 exact ⟨v',rfl,ho,za2 hgr hg⟩

open Go.RowKit Go.Mk

theorem zpo {w:World} {base e:Nat} (b:Nat) (cs:Array Value) (n:Nat) (hb:w.heap.size=b) (hbase:base<=b) (hm:n<=maxLen) (hc:cs.size=n):(w.alloc (.cells cs e)).ownsRow base e 1 (.slice (some ⟨b,0,none⟩) n n) n cs.toList:=by
 subst hb
 exact World.ownsRow_lit (base:=base) (e:=e) (size:=1) w cs n hbase hm (by omega)

theorem zof (c t k a o n:Int):[Value.int .u8 113,.int .u8 (c % 256),.int .u8 (t % 256),.int .u8 (k % 256),.int .u8 (a % 256),.int .u8 (o % 256)]++(zdB n).map U=(zbF ⟨c,t,⟨k,a,o,n⟩⟩).map U:=by
 rw [byteU,byteU,byteU,byteU,byteU]
 unfold zbF
 rw [List.map_append]
 rfl
theorem zoN (c t e0 n:Int):[Value.int .u8 97,.int .u8 (c % 256),.int .u8 (t % 256),.int .u8 (e0 % 256)]++(zdB n).map U=(zbX ⟨c,t,⟨e0,n⟩⟩).map U:=by
 rw [byteU,byteU,byteU]
 unfold zbX
 rw [List.map_append]
 rfl

theorem zl8 (c t k a o n:Int) (w:World) :
  Calls Tryz.prog 88 #[RQ ⟨c,t,⟨k,a,o,n⟩⟩] w fun e w'=>∃ v',e=.returned v'/\w'.ownsRow w.heap.size 5 1 v' 10 ((zbF ⟨c,t,⟨k,a,o,n⟩⟩).map U)/\Ext w w':=by
 go_enter Tryz.func88,Tryz.ntmps88
 go_wp2_with fail
 refine (zfq w.heap.size _ _ 6 n _ (zpo (w.heap.size+1+1) _ 6 (by simp) (by omega) (by decide) rfl) (by decide) (by simp; omega)).mono ?_;rintro e w1 ⟨v',rfl,ho,hg⟩
 have e1:Ext w w1:=Ext.grown ((((Ext.refl w).alloc _).alloc _).alloc _) hg (fun j hj=>by simp [Value.ownBlock] at hj; omega);clear hg;go_wp2
 go_ret
 exact ⟨v',rfl,by rw [<- zof]; exact ho,e1⟩

theorem zjL (c t e0 n:Int) (w:World) :
  Calls Tryz.prog 103 #[AN ⟨c,t,⟨e0,n⟩⟩] w fun e w'=>∃ v',e=.returned v'/\w'.ownsRow w.heap.size 5 1 v' 8 ((zbX ⟨c,t,⟨e0,n⟩⟩).map U)/\Ext w w':=by
 go_enter Tryz.func103,Tryz.ntmps103
 go_wp2_with fail
 refine (zfq w.heap.size _ _ 4 n _ (zpo (w.heap.size+1) _ 4 (by simp) (by omega) (by decide) rfl) (by decide) (by simp; omega)).mono ?_;rintro e w1 ⟨v',rfl,ho,hg⟩
 have e1:Ext w w1:=Ext.grown (((Ext.refl w).alloc _).alloc _) hg (fun j hj=>by simp [Value.ownBlock] at hj; omega);clear hg;go_wp2
 go_ret
 exact ⟨v',rfl,by rw [<- zoN]; exact ho,e1⟩

open Go.RowKit Go.Mk

theorem wrapU (n:Int):(Value.int .u8 (IntKind.u8.wrap n))=U (Mk.byteOf n):=by
 rw [<- byteU]
 refine congrArg (Value.int .u8) ?_
 unfold IntKind.wrap
 simp [IntKind.signed,IntKind.bits]

theorem zfm (c t k a o n:Int) (w:World) :
  zaV Tryz.prog 46 #[RQ ⟨c,t,⟨k,a,o,n⟩⟩] w fun v w'=>zdt w.heap.size w' v (zbF ⟨c,t,⟨k,a,o,n⟩⟩):=by
 unfold zaV;have e0:Ext w (w.alloc (.cells #[I c,I t,I k,I a,I o,I n] 37)):=(Ext.refl w).alloc _
 have HB:Hid (∀ wx,Ext (w.alloc (.cells #[I c,I t,I k,I a,I o,I n] 37)) wx->wx.cell? ⟨w.heap.size,0,none⟩=some (I c)/\wx.cell? ⟨w.heap.size,1,none⟩=some (I t)/\wx.cell? ⟨w.heap.size,2,none⟩=some (I k)/\wx.cell? ⟨w.heap.size,3,none⟩=some (I a)/\wx.cell? ⟨w.heap.size,4,none⟩=some (I o)/\wx.cell? ⟨w.heap.size,5,none⟩=some (I n)):=fun wx hx =>
  ⟨hx.cell (by simp),hx.cell (by simp),hx.cell (by simp),hx.cell (by simp),hx.cell (by simp),hx.cell (by simp)⟩
 go_enter Tryz.func46,Tryz.ntmps46
 go_wp2_with fail
 generalize hw0:w.alloc (.cells #[I c,I t,I k,I a,I o,I n] 37)=w0 at *;have HW0:=zhd hw0;clear hw0;obtain ⟨c0,c1,c2,c3,c4,c5⟩:=HB.o w0 (Ext.refl _)
 refine zcT [none,none,none,none,none,none,none,none,none,none,none,none,none,none,none,none,none,none,
  some (.inr fun v wx=>zba wx v [Mk.byteOf c,Mk.byteOf t,Mk.byteOf k,Mk.byteOf a,Mk.byteOf o]),some (.inl (.string ⟨#[Mk.byteOf c,Mk.byteOf t,Mk.byteOf k,Mk.byteOf a,Mk.byteOf o]⟩)),some (.inl (.string ⟨#[113,Mk.byteOf c,Mk.byteOf t,Mk.byteOf k,Mk.byteOf a,Mk.byteOf o]⟩)),none,none,none,
  some (.inl (.string ⟨(zdB n).toArray⟩)),some (.inl (.string ⟨(zbF ⟨c,t,⟨k,a,o,n⟩⟩).toArray⟩)),some (.inr fun v wx=>zdt w.heap.size wx v (zbF ⟨c,t,⟨k,a,o,n⟩⟩)),none] (by kernel_rfl) (by kernel_rfl) ?_ ?_
 ·exact ⟨trivial,trivial,trivial,trivial,trivial,trivial,trivial,trivial,trivial,trivial,trivial,trivial,trivial,trivial,trivial,trivial,trivial,trivial,zkH _,trivial,trivial,trivial,trivial,trivial,trivial,trivial,ze3 _ _,trivial,trivial⟩
 (refine zar (fun K hK=>?_); go_simp; refine hK _ ?_; clear hK K)
 refine zaE (I c) rfl (fun w' hw'=>by have q0:=hw'.cell c0; go_simp) ?_;iterate 2 (refine zar (fun K hK=>?_); go_simp; refine hK _ ?_; clear hK K)
 refine zaE (I t) rfl (fun w' hw'=>by have q0:=hw'.cell c1; go_simp) ?_;iterate 3 (refine zar (fun K hK=>?_); go_simp; refine hK _ ?_; clear hK K)
 refine zaE (I k) rfl (fun w' hw'=>by have q0:=hw'.cell c2; go_simp) ?_;iterate 3 (refine zar (fun K hK=>?_); go_simp; refine hK _ ?_; clear hK K)
 refine zaE (I a) rfl (fun w' hw'=>by have q0:=hw'.cell c3; go_simp) ?_;iterate 3 (refine zar (fun K hK=>?_); go_simp; refine hK _ ?_; clear hK K)
 refine zaE (I o) rfl (fun w' hw'=>by have q0:=hw'.cell c4; go_simp) ?_;(refine zar (fun K hK=>?_); go_simp; refine hK _ ?_; clear hK K)
 refine za8 _ rfl (fun w' hw' _=>?_) (fun v21=>?_)
 ·unfold zaT;go_simp
  exact ⟨(Ext.refl _).alloc _,zgM _ _ _ 5 (by rw [wrapU,wrapU,wrapU,wrapU,wrapU]; rfl) rfl (by decide)⟩
 refine zd0 _ rfl (fun w' hw' hk=>?_) ?_
 ·have h21:zba w' v21 [Mk.byteOf c,Mk.byteOf t,Mk.byteOf k,Mk.byteOf a,Mk.byteOf o]:=hk 21 (by decide);have hcv:=zfe (P:=Tryz.prog) h21 zjf zu5 zu9;clear hk;unfold zaT;go_simp
  exact ⟨Ext.refl _,rfl⟩
 refine zan fun K h=>?_; go_simp; refine h _ ?_; clear h K;refine zd0 _ rfl (fun w' hw' _=>?_) ?_
 ·have ha:=run_string_add_lists (P:=Tryz.prog) w' [113] [Mk.byteOf c,Mk.byteOf t,Mk.byteOf k,Mk.byteOf a,Mk.byteOf o] (by decide) (by simp);unfold zaT;go_simp
  exact ⟨Ext.refl _,rfl⟩
 refine zan fun K h=>?_; go_simp; refine h _ ?_; clear h K;iterate 2 (refine zar (fun K hK=>?_); go_simp; refine hK _ ?_; clear hK K)
 refine zaE (I n) rfl (fun w' hw'=>by have q0:=hw'.cell c5; go_simp) ?_;refine zd0 _ rfl (fun w' hw' _=>?_) ?_
 ·have hg:=zc1 (zlY n w');unfold zaT;go_simp
  exact ⟨Ext.refl _,hg⟩
 refine zan fun K h=>?_; go_simp; refine h _ ?_; clear h K;refine zd0 _ rfl (fun w' hw' _=>?_) ?_
 ·have ha:=run_string_add_lists (P:=Tryz.prog) w' [113,Mk.byteOf c,Mk.byteOf t,Mk.byteOf k,Mk.byteOf a,Mk.byteOf o] (zdB n) (by simp) (by simp [zdB]);unfold zaT;go_simp
  exact ⟨Ext.refl _,rfl⟩
 refine zan fun K h=>?_; go_simp; refine h _ ?_; clear h K;refine za8 _ rfl (fun w' hw' _=>?_) (fun v29=>?_)
 ·have ha:=run_bytes_of_string (P:=Tryz.prog) w' 9 78 5 ⟨(zbF ⟨c,t,⟨k,a,o,n⟩⟩).toArray⟩ zu9 zjf zu5;unfold zaT;go_simp
  exact ⟨(Ext.refl _).drew.alloc _,_,_,_,_,rfl,Nat.le_trans (by rw [<- HW0.o]; simp) hw'.size,zf9 w' 5 (zbF ⟨c,t,⟨k,a,o,n⟩⟩) (show 10<=maxLen by decide) _⟩
 (refine zar (fun K hK=>?_); go_simp; refine hK _ ?_; clear hK K)
 refine za0 ?_;intro w4 he4 hX;have hr:zdt w.heap.size w4 v29 (zbF ⟨c,t,⟨k,a,o,n⟩⟩):=hX 29;clear hX c0 c1 c2 c3 c4 c5;go_wp2
 go_ret
 exact ⟨v29,rfl,e0.trans he4,hr⟩

theorem zgb (c t x n:Int) (w:World) :
  zaV Tryz.prog 48 #[AN ⟨c,t,⟨x,n⟩⟩] w fun v w'=>zdt w.heap.size w' v (zbX ⟨c,t,⟨x,n⟩⟩):=by
 unfold zaV;have e0:Ext w (w.alloc (.cells #[I c,I t,I x,I n] 100)):=(Ext.refl w).alloc _
 have HB:Hid (∀ wx,Ext (w.alloc (.cells #[I c,I t,I x,I n] 100)) wx->wx.cell? ⟨w.heap.size,0,none⟩=some (I c)/\wx.cell? ⟨w.heap.size,1,none⟩=some (I t)/\wx.cell? ⟨w.heap.size,2,none⟩=some (I x)/\wx.cell? ⟨w.heap.size,3,none⟩=some (I n)):=fun wx hx =>
  ⟨hx.cell (by simp),hx.cell (by simp),hx.cell (by simp),hx.cell (by simp)⟩
 go_enter Tryz.func48,Tryz.ntmps48
 go_wp2_with fail
 generalize hw0:w.alloc (.cells #[I c,I t,I x,I n] 100)=w0 at *;have HW0:=zhd hw0;clear hw0;obtain ⟨c0,c1,c2,c3⟩:=HB.o w0 (Ext.refl _)
 refine zcT [none,none,none,none,none,none,none,none,none,none,
  some (.inr fun v wx=>zba wx v [Mk.byteOf c,Mk.byteOf t,Mk.byteOf x]),some (.inl (.string ⟨#[Mk.byteOf c,Mk.byteOf t,Mk.byteOf x]⟩)),some (.inl (.string ⟨#[97,Mk.byteOf c,Mk.byteOf t,Mk.byteOf x]⟩)),none,none,none,
  some (.inl (.string ⟨(zdB n).toArray⟩)),some (.inl (.string ⟨(zbX ⟨c,t,⟨x,n⟩⟩).toArray⟩)),some (.inr fun v wx=>zdt w.heap.size wx v (zbX ⟨c,t,⟨x,n⟩⟩)),none] (by kernel_rfl) (by kernel_rfl) ?_ ?_
 ·exact ⟨trivial,trivial,trivial,trivial,trivial,trivial,trivial,trivial,trivial,trivial,zkH _,trivial,trivial,trivial,trivial,trivial,trivial,trivial,ze3 _ _,trivial,trivial⟩
 (refine zar (fun K hK=>?_); go_simp; refine hK _ ?_; clear hK K)
 refine zaE (I c) rfl (fun w' hw'=>by have q0:=hw'.cell c0; go_simp) ?_;iterate 2 (refine zar (fun K hK=>?_); go_simp; refine hK _ ?_; clear hK K)
 refine zaE (I t) rfl (fun w' hw'=>by have q0:=hw'.cell c1; go_simp) ?_;iterate 3 (refine zar (fun K hK=>?_); go_simp; refine hK _ ?_; clear hK K)
 refine zaE (I x) rfl (fun w' hw'=>by have q0:=hw'.cell c2; go_simp) ?_;(refine zar (fun K hK=>?_); go_simp; refine hK _ ?_; clear hK K)
 refine za8 _ rfl (fun w' hw' _=>?_) (fun v13=>?_)
 ·unfold zaT;go_simp
  exact ⟨(Ext.refl _).alloc _,zgM _ _ _ 3 (by rw [wrapU,wrapU,wrapU]; rfl) rfl (by decide)⟩
 refine zd0 _ rfl (fun w' hw' hk=>?_) ?_
 ·have h13:zba w' v13 [Mk.byteOf c,Mk.byteOf t,Mk.byteOf x]:=hk 13 (by decide);have hcv:=zfe (P:=Tryz.prog) h13 zjf zu5 zu9;clear hk;unfold zaT;go_simp
  exact ⟨Ext.refl _,rfl⟩
 refine zan fun K h=>?_; go_simp; refine h _ ?_; clear h K;refine zd0 _ rfl (fun w' hw' _=>?_) ?_
 ·have ha:=run_string_add_lists (P:=Tryz.prog) w' [97] [Mk.byteOf c,Mk.byteOf t,Mk.byteOf x] (by decide) (by simp);unfold zaT;go_simp
  exact ⟨Ext.refl _,rfl⟩
 refine zan fun K h=>?_; go_simp; refine h _ ?_; clear h K;iterate 2 (refine zar (fun K hK=>?_); go_simp; refine hK _ ?_; clear hK K)
 refine zaE (I n) rfl (fun w' hw'=>by have q0:=hw'.cell c3; go_simp) ?_;refine zd0 _ rfl (fun w' hw' _=>?_) ?_
 ·have hg:=zc1 (zlY n w');unfold zaT;go_simp
  exact ⟨Ext.refl _,hg⟩
 refine zan fun K h=>?_; go_simp; refine h _ ?_; clear h K;refine zd0 _ rfl (fun w' hw' _=>?_) ?_
 ·have ha:=run_string_add_lists (P:=Tryz.prog) w' [97,Mk.byteOf c,Mk.byteOf t,Mk.byteOf x] (zdB n) (by simp) (by simp [zdB]);unfold zaT;go_simp
  exact ⟨Ext.refl _,rfl⟩
 refine zan fun K h=>?_; go_simp; refine h _ ?_; clear h K;refine za8 _ rfl (fun w' hw' _=>?_) (fun v21=>?_)
 ·have ha:=run_bytes_of_string (P:=Tryz.prog) w' 9 78 5 ⟨(zbX ⟨c,t,⟨x,n⟩⟩).toArray⟩ zu9 zjf zu5;unfold zaT;go_simp
  exact ⟨(Ext.refl _).drew.alloc _,_,_,_,_,rfl,Nat.le_trans (by rw [<- HW0.o]; simp) hw'.size,zf9 w' 5 (zbX ⟨c,t,⟨x,n⟩⟩) (show 8<=maxLen by decide) _⟩
 (refine zar (fun K hK=>?_); go_simp; refine hK _ ?_; clear hK K)
 refine za0 ?_;intro w4 he4 hX;have hr:zdt w.heap.size w4 v21 (zbX ⟨c,t,⟨x,n⟩⟩):=hX 21;clear hX c0 c1 c2 c3;go_wp2
 go_ret
 exact ⟨v21,rfl,e0.trans he4,hr⟩

open Go.RowKit Go.Mk

theorem znF {w:World} {v:Value} {b0 b1 b2 b3 b4 b5 b6 b7 b8 b9:UInt8} (h:zba w v [b0,b1,b2,b3,b4,b5,b6,b7,b8,b9]):∃ b off cap,v=.slice (some ⟨b,off,none⟩) 10 cap/\10<=cap/\cap<=maxLen /\
  (w.cell? ⟨b,off,none⟩=some (U b0)/\w.cell? ⟨b,off+1,none⟩=some (U b1)/\w.cell? ⟨b,off+2,none⟩=some (U b2)/\w.cell? ⟨b,off+3,none⟩=some (U b3)/\w.cell? ⟨b,off+4,none⟩=some (U b4)/\w.cell? ⟨b,off+5,none⟩=some (U b5)) /\
   zba w (.slice (some ⟨b,off+6,none⟩) 4 (cap - 6)) [b6,b7,b8,b9]:=by
 obtain ⟨ao,cap,rfl,h1,h2,h3⟩:=h.form
 obtain ⟨b,off,rfl,c0⟩:=h3 0 (by simp)
 refine ⟨b,off,cap,rfl,h1,h2,⟨c0,?_,?_,?_,?_,?_⟩,h.drop 6 (by simp)⟩
 ·obtain ⟨_,_,e1,c1⟩:=h3 1 (by simp); cases e1; exact c1
 ·obtain ⟨_,_,e1,c1⟩:=h3 2 (by simp); cases e1; exact c1
 ·obtain ⟨_,_,e1,c1⟩:=h3 3 (by simp); cases e1; exact c1
 ·obtain ⟨_,_,e1,c1⟩:=h3 4 (by simp); cases e1; exact c1
 ·obtain ⟨_,_,e1,c1⟩:=h3 5 (by simp); cases e1; exact c1

theorem zo5 {w:World} {v:Value} {b0 b1 b2 b3 b4 b5 b6 b7:UInt8} (h:zba w v [b0,b1,b2,b3,b4,b5,b6,b7]):∃ b off cap,v=.slice (some ⟨b,off,none⟩) 8 cap/\8<=cap/\cap<=maxLen /\
  (w.cell? ⟨b,off,none⟩=some (U b0)/\w.cell? ⟨b,off+1,none⟩=some (U b1)/\w.cell? ⟨b,off+2,none⟩=some (U b2)/\w.cell? ⟨b,off+3,none⟩=some (U b3)) /\
   zba w (.slice (some ⟨b,off+4,none⟩) 4 (cap - 4)) [b4,b5,b6,b7]:=by
 obtain ⟨ao,cap,rfl,h1,h2,h3⟩:=h.form
 obtain ⟨b,off,rfl,c0⟩:=h3 0 (by simp)
 refine ⟨b,off,cap,rfl,h1,h2,⟨c0,?_,?_,?_⟩,h.drop 4 (by simp)⟩
 ·obtain ⟨_,_,e1,c1⟩:=h3 1 (by simp); cases e1; exact c1
 ·obtain ⟨_,_,e1,c1⟩:=h3 2 (by simp); cases e1; exact c1
 ·obtain ⟨_,_,e1,c1⟩:=h3 3 (by simp); cases e1; exact c1

theorem zfr (x:UInt8):IntKind.i64.wrap (x.toNat:Int)=(x.toNat:Int):=by
 have:=x.toNat_lt
 unfold IntKind.wrap
 simp [IntKind.signed,IntKind.bits]
 omega

theorem zid {l:List UInt8} (h:¬ (l.length=10/\l.getD 0 0=113)):readRq l=(zeroRq,2):=if_pos (by by_cases h1:l.length=10 <;> simp_all)
theorem zic {l:List UInt8} (h:¬ (l.length=8/\l.getD 0 0=97)):readAn l=(zeroAn,2):=if_pos (by by_cases h1:l.length=8 <;> simp_all)

theorem zh6 (v:Value) (l:List UInt8) (w:World) (hv:zba w v l) (hf:¬ (l.length=10/\l.getD 0 0=113)) :
  Calls Tryz.prog 104 #[v] w fun e w'=>e=.returned (.tuple #[RQ (readRq l).1,I (readRq l).2])/\Ext w w':=by
 have hff:decide (l.length=10/\l.getD 0 0=113)=false:=decide_eq_false hf;have hF:=fun wx (h:Ext w wx)=>zfP v l 113 10 (by decide) wx (hv.ext h);rw [hff] at hF;rw [zid hf];clear hv hf hff;go_enter Tryz.func104,Tryz.ntmps104
 go_wp2_with fail
 refine Calls.same (hF _ ((Ext.refl w).alloc _)) ?_;go_wp2
 refine bodyPost_ret (by simp [results,Tryz.results104,go_sem]; rfl) rfl ?_;exact ⟨rfl,(Ext.refl w).alloc _⟩

theorem zh9 (v:Value) (b1 b2 b3 b4 b5 b6 b7 b8 b9:UInt8) (w:World) (hv:zba w v [113,b1,b2,b3,b4,b5,b6,b7,b8,b9]) :
  Calls Tryz.prog 104 #[v] w fun e w'=>e=.returned (.tuple #[RQ (readRq [113,b1,b2,b3,b4,b5,b6,b7,b8,b9]).1,I (readRq [113,b1,b2,b3,b4,b5,b6,b7,b8,b9]).2])/\Ext w w':=by
 have hF:=fun wx (h:Ext w wx)=>zfP v _ 113 10 (by decide) wx (hv.ext h);have hneg:zbH ⟨b1.toNat,b2.toNat,⟨b3.toNat,b4.toNat,b5.toNat,numB [b6,b7,b8,b9]⟩⟩=0->readRq [113,b1,b2,b3,b4,b5,b6,b7,b8,b9]=(⟨b1.toNat,b2.toNat,⟨b3.toNat,b4.toNat,b5.toNat,numB [b6,b7,b8,b9]⟩⟩,0):=fun h=>if_neg (show ¬ (zbH ⟨b1.toNat,b2.toNat,⟨b3.toNat,b4.toNat,b5.toNat,numB [b6,b7,b8,b9]⟩⟩≠0) from fun k=>k h);have hpos:¬ zbH ⟨b1.toNat,b2.toNat,⟨b3.toNat,b4.toNat,b5.toNat,numB [b6,b7,b8,b9]⟩⟩=0->readRq [113,b1,b2,b3,b4,b5,b6,b7,b8,b9]=(zeroRq,zbH ⟨b1.toNat,b2.toNat,⟨b3.toNat,b4.toNat,b5.toNat,numB [b6,b7,b8,b9]⟩⟩):=fun h=>if_pos (show zbH ⟨b1.toNat,b2.toNat,⟨b3.toNat,b4.toNat,b5.toNat,numB [b6,b7,b8,b9]⟩⟩≠0 from h);have hff:decide ([113,b1,b2,b3,b4,b5,b6,b7,b8,b9].length=10/\[113,b1,b2,b3,b4,b5,b6,b7,b8,b9].getD 0 0=113)=true:=rfl;rw [hff] at hF;clear hff;generalize readRq [113,b1,b2,b3,b4,b5,b6,b7,b8,b9]=RR at *;obtain ⟨R,E⟩:=RR;obtain ⟨b,off,cap,rfl,hc1,hc2,⟨-,c1,c2,c3,c4,c5⟩,h6⟩:=znF hv;have hN:=fun wx (h:Ext w wx)=>zjD _ b6 b7 b8 b9 wx (h6.ext h);unfold maxLen at hc2;clear hv h6;generalize numB [b6,b7,b8,b9]=n at *;have HN:=zhd hneg;have HP:=zhd hpos;clear hneg hpos;have hk6:¬ cap=6:=by omega
 have hbw:=zfr;have e0:Ext w (w.alloc (.cells #[I 0,I 0,I 0,I 0,I 0,I 0] 37)):=(Ext.refl w).alloc _;have HB:=zhd (fun wx (h:Ext (w.alloc (.cells #[I 0,I 0,I 0,I 0,I 0,I 0] 37)) wx)=>zbj h);go_enter Tryz.func104,Tryz.ntmps104
 go_wp2_with fail
 refine Calls.same (hF _ e0) ?_;go_wp2_with fail
 clear hF;generalize hw0:w.alloc (.cells #[I 0,I 0,I 0,I 0,I 0,I 0] 37)=w0 at *;have HW0:=zhd hw0;clear hw0;replace c1:=e0.cell c1;replace c2:=e0.cell c2;replace c3:=e0.cell c3;replace c4:=e0.cell c4;replace c5:=e0.cell c5;refine zam 17 [none,none,none,none,none,none,none,none,none,none,none,none,none,none,some (.inl (I n)),none,some (.inr (zfp w0.heap.size 35 #[I 0,I 0,I 0,I 0]))] (by kernel_rfl) (by kernel_rfl) ?_ ?_
 ·exact ⟨trivial,trivial,trivial,trivial,trivial,trivial,trivial,trivial,trivial,trivial,trivial,trivial,trivial,trivial,trivial,trivial,zdZ _ _ _,trivial⟩
 iterate 2 (refine zar (fun K hK=>?_); go_simp; refine hK _ ?_; clear hK K)
 refine zaE (U b3) rfl (fun w' hw'=>by have q0:=hw'.cell c3; go_simp) ?_;iterate 3 (refine zar (fun K hK=>?_); go_simp; refine hK _ ?_; clear hK K)
 refine zaE (U b4) rfl (fun w' hw'=>by have q0:=hw'.cell c4; go_simp) ?_;iterate 3 (refine zar (fun K hK=>?_); go_simp; refine hK _ ?_; clear hK K)
 refine zaE (U b5) rfl (fun w' hw'=>by have q0:=hw'.cell c5; go_simp) ?_;iterate 3 (refine zar (fun K hK=>?_); go_simp; refine hK _ ?_; clear hK K)
 refine zd0 _ rfl (fun w' hw' _=>?_) ?_
 ·have hg:=zc1 (hN w' (e0.trans hw'));unfold zaT;go_simp
  exact ⟨Ext.refl _,hg⟩
 (refine zar (fun K hK=>?_); go_simp; refine hK _ ?_; clear hK K)
 refine za8 _ rfl (fun w' hw' hk=>?_) (fun v4=>?_)
 ·clear hk;unfold zaT;go_simp
  exact ⟨(Ext.refl _).alloc _,zdV hw'.size⟩
 refine za0 ?_;intro w1 e1 hX;obtain ⟨d,rfl,hd0,hd1⟩:zfp w0.heap.size 35 #[I 0,I 0,I 0,I 0] v4 w1:=hX 4;clear hX hN;obtain ⟨x0,x1,x2,x3,f0,f1,f2,f3⟩:=zcl hd1;have e2:=zb8 e1 hd0 (I b3.toNat) (I b4.toNat) (I b5.toNat) (I n);have hd2:=set4 hd1 (I b3.toNat) (I b4.toNat) (I b5.toNat) (I n);go_wp2_with fail
 clear x0 x1 x2 x3 f0 f1 f2 f3 c3 c4 c5 hd1 e1;generalize hw2:(((w1.setCell ⟨d,0,none⟩ (I b3.toNat)).setCell ⟨d,1,none⟩ (I b4.toNat)).setCell ⟨d,2,none⟩ (I b5.toNat)).setCell ⟨d,3,none⟩ (I n)=w2 at *;clear hw2;replace c1:=e2.cell c1;replace c2:=e2.cell c2;obtain ⟨x0,x1,x2,x3,-⟩:=zcl hd2;clear hd2;refine zam 11 [none,none,none,none,none,none,none,none,none,none,some (.inr (zfp w0.heap.size 37 #[I 0,I 0,I 0,I 0,I 0,I 0]))] (by kernel_rfl) (by kernel_rfl) ?_ ?_
 ·exact ⟨trivial,trivial,trivial,trivial,trivial,trivial,trivial,trivial,trivial,trivial,zdZ _ _ _,trivial⟩
 iterate 2 (refine zar (fun K hK=>?_); go_simp; refine hK _ ?_; clear hK K)
 refine zaE (U b1) rfl (fun w' hw'=>by have q0:=hw'.cell c1; go_simp) ?_;iterate 3 (refine zar (fun K hK=>?_); go_simp; refine hK _ ?_; clear hK K)
 refine zaE (U b2) rfl (fun w' hw'=>by have q0:=hw'.cell c2; go_simp) ?_;(refine zar (fun K hK=>?_); go_simp; refine hK _ ?_; clear hK K)
 refine zaE (.agg #[I b3.toNat,I b4.toNat,I b5.toNat,I n]) rfl (fun w' hw'=>by have q0:=hw'.cell x0; have q1:=hw'.cell x1; have q2:=hw'.cell x2; have q3:=hw'.cell x3; go_simp) ?_;(refine zar (fun K hK=>?_); go_simp; refine hK _ ?_; clear hK K)
 refine za8 _ rfl (fun w' hw' hk=>?_) (fun v5=>?_)
 ·clear hk;unfold zaT;go_simp
  exact ⟨(Ext.refl _).alloc _,zdV (Nat.le_trans e2.size hw'.size)⟩
 refine za0 ?_;intro w3 e3 hX;obtain ⟨g,rfl,hg0,hg1⟩:zfp w0.heap.size 37 #[I 0,I 0,I 0,I 0,I 0,I 0] v5 w3:=hX 5;clear hX x0 x1 x2 x3 c1 c2;obtain ⟨⟨x0,x1,x2,x3,x4,x5⟩,f0,f1,f2,f3,f4,f5⟩:=zhl hg1;have e4:=zfw (e2.trans e3) hg0 (I b1.toNat) (I b2.toNat) (I b3.toNat) (I b4.toNat) (I b5.toNat) (I n);have hg2:=zn1 hg1 (I b1.toNat) (I b2.toNat) (I b3.toNat) (I b4.toNat) (I b5.toNat) (I n);go_wp2_with fail
 clear x0 x1 x2 x3 x4 x5 f0 f1 f2 f3 f4 f5 hg1 e3;generalize hw4:(((((w3.setCell ⟨g,0,none⟩ (I b1.toNat)).setCell ⟨g,1,none⟩ (I b2.toNat)).setCell ⟨g,2,none⟩ (I b3.toNat)).setCell ⟨g,3,none⟩ (I b4.toNat)).setCell ⟨g,4,none⟩ (I b5.toNat)).setCell ⟨g,5,none⟩ (I n)=w4 at *;clear hw4 hbw;refine Calls.exts (zh1 (b1.toNat:Int) b2.toNat b3.toNat b4.toNat b5.toNat n w4) (fun w5 e5=>?_);have rb:=HB.o w5 (e4.trans e5);obtain ⟨⟨z0,z1,z2,z3,z4,z5⟩,f0,f1,f2,f3,f4,f5⟩:=zhl rb;have m5:Ext w w5:=e0.trans (e4.trans e5);by_cases hz:zbH ⟨b1.toNat,b2.toNat,⟨b3.toNat,b4.toNat,b5.toNat,n⟩⟩=0
 ·rw [hz];obtain ⟨⟨x0,x1,x2,x3,x4,x5⟩,-⟩:=zhl (zbV hg2 e5);have HZ:=zhd hz;clear hz;go_wp2
  have rb2:=zn1 rb (I b1.toNat) (I b2.toNat) (I b3.toNat) (I b4.toNat) (I b5.toNat) (I n);obtain ⟨⟨q0,q1,q2,q3,q4,q5⟩,-⟩:=zhl rb2;have m6:=zfw m5 (Nat.le_refl w.heap.size) (I b1.toNat) (I b2.toNat) (I b3.toNat) (I b4.toNat) (I b5.toNat) (I n);clear x0 x1 x2 x3 x4 x5 z0 z1 z2 z3 z4 z5 f0 f1 f2 f3 f4 f5;refine bodyPost_ret (by simp [results,Tryz.results104,go_sem,q0,q1,q2,q3,q4,q5]; rfl) rfl ?_;obtain ⟨h1,h2⟩:=Prod.mk.inj (HN.o HZ.o);rw [h1,h2];exact ⟨rfl,m6⟩
 ·have hb:(zbH ⟨b1.toNat,b2.toNat,⟨b3.toNat,b4.toNat,b5.toNat,n⟩⟩ != 0)=true:=by simpa using hz
  have HZ:=zhd hz;clear hz;go_wp2
  have rb2:=zn1 rb (I 0) (I 0) (I 0) (I 0) (I 0) (I 0);obtain ⟨⟨q0,q1,q2,q3,q4,q5⟩,-⟩:=zhl rb2;have m6:=zfw m5 (Nat.le_refl w.heap.size) (I 0) (I 0) (I 0) (I 0) (I 0) (I 0);clear z0 z1 z2 z3 z4 z5 f0 f1 f2 f3 f4 f5;refine bodyPost_ret (by simp [results,Tryz.results104,go_sem,q0,q1,q2,q3,q4,q5]; rfl) rfl ?_;obtain ⟨h1,h2⟩:=Prod.mk.inj (HP.o HZ.o);rw [h1,h2];exact ⟨rfl,m6⟩

theorem zqh {l:List UInt8} (h:l.length=10/\l.getD 0 0=113):∃ b1 b2 b3 b4 b5 b6 b7 b8 b9,l=[113,b1,b2,b3,b4,b5,b6,b7,b8,b9]:=by
 obtain ⟨h1,h2⟩:=h
 match l,h1,h2 with
 | [b0,b1,b2,b3,b4,b5,b6,b7,b8,b9],_,h0 =>
  have h0:b0=113:=h0
  subst h0
  exact ⟨_,_,_,_,_,_,_,_,_,rfl⟩
theorem zmf {l:List UInt8} (h:l.length=8/\l.getD 0 0=97):∃ b1 b2 b3 b4 b5 b6 b7,l=[97,b1,b2,b3,b4,b5,b6,b7]:=by
 obtain ⟨h1,h2⟩:=h
 match l,h1,h2 with
 | [b0,b1,b2,b3,b4,b5,b6,b7],_,h0 =>
  have h0:b0=97:=h0
  subst h0
  exact ⟨_,_,_,_,_,_,_,rfl⟩

theorem zit (v:Value) (l:List UInt8) (w:World) (hv:zba w v l) :
  Calls Tryz.prog 104 #[v] w fun e w'=>e=.returned (.tuple #[RQ (readRq l).1,I (readRq l).2])/\Ext w w':=by
 by_cases hf:l.length=10/\l.getD 0 0=113
 ·obtain ⟨b1,b2,b3,b4,b5,b6,b7,b8,b9,rfl⟩:=zqh hf
  exact zh9 v b1 b2 b3 b4 b5 b6 b7 b8 b9 w hv
 ·exact zh6 v l w hv hf

end Go.Proofs.YtdmipnnfoolelagGreat

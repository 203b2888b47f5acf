/- Texts of the proof, merged: M1a M1b E1 E2 E3 E4 E5 E6 E7. -/
import Derived.Test.YtdmipnnfoolelafGreatKTH
import Derived.Test.YtdmipnnfoolelafGreatKTB
import Derived.BigRegion
import Derived.Lib.Hide
import Derived.Test.YtdmipnnfoolelafGreatKTA
import Derived.Laws.BitsAllLaws
set_option maxHeartbeats 2000000
set_option maxRecDepth 100000

namespace Go.Proofs.YtdmipnnfoolelafGreat
open Go.RowKit Go.Mk

theorem zds (n a b:Int) (w:World) :
  Calls Tryz.prog 81 #[I n,I a,I b] w fun e w'=>e=.returned (.bool (decide (a<=n/\n<=b)))/\w'=w:=by
 by_cases hi:a<=n
 ·go_enter Tryz.func81,Tryz.ntmps81
  go_wp2
  go_ret
  exact ⟨by simp [hi],rfl⟩
 ·go_enter Tryz.func81,Tryz.ntmps81
  go_wp2
  go_ret
  exact ⟨by simp; omega,rfl⟩

theorem zkP (n:Int) (has:Bool) (w:World) :
  Calls Tryz.prog 82 #[I n,.bool has] w fun e w'=>e=.returned (.bool (if has then decide (1<=n/\n<=255) else n == 0))/\w'=w:=by
 cases has
 ·go_enter Tryz.func82,Tryz.ntmps82
  go_wp2
  go_ret
  exact ⟨by simp,rfl⟩
 ·go_enter Tryz.func82,Tryz.ntmps82
  go_wp2_with (go_at_call 81; refine Calls.same (zds _ _ _ _) ?_)
  go_ret
  exact ⟨by simp,rfl⟩

theorem zi2 (n:Int) (has:Bool) (w:World) :
  Calls Tryz.prog 83 #[I n,.bool has] w fun e w'=>e=.returned (.bool (if has then decide (-1073741824<=n/\n<=1073741824) else n == 0))/\w'=w:=by
 cases has
 ·go_enter Tryz.func83,Tryz.ntmps83
  go_wp2
  go_ret
  exact ⟨by simp,rfl⟩
 ·go_enter Tryz.func83,Tryz.ntmps83
  go_wp2_with (go_at_call 81; refine Calls.same (zds _ _ _ _) ?_)
  go_ret
  exact ⟨by simp,rfl⟩

theorem zkc (k a o n:Int) (w:World):zaT Tryz.prog 55 #[.agg #[I k,I a,I o,I n]] w fun r _=>r=I (wrongCl ⟨k,a,o,n⟩):=by
 unfold zaT;by_cases hk:1<=k/\k<=6
 case neg =>
  have hk':decide (1<=k/\k<=6)=false:=by simpa using hk
  go_enter Tryz.func55,Tryz.ntmps55
  go_wp2_with (go_at_call 81; refine Calls.same (zds _ _ _ _) ?_)
  go_ret
  exact zll ((Ext.refl w).alloc _) (congrArg I (show 1=_ by simp only [wrongCl]; rw [if_pos hk]))
 have hk2:k=1∨k=2∨k=3∨k=4∨k=5∨k=6:=by omega
 clear hk;rcases hk2 with rfl | rfl | rfl | rfl | rfl | rfl
 all_goals
  go_enter Tryz.func55,Tryz.ntmps55
  go_wp2_with (first
   | (go_at_call 81; refine Calls.same (zds _ _ _ _) ?_)
   | (go_at_call 82; refine Calls.same (zkP _ _ _) ?_)
   | (go_at_call 83; refine Calls.same (zi2 _ _ _) ?_))
 all_goals
  go_ret
  refine zll ((Ext.refl w).alloc _) ?_
  first | refine congrArg I (show 0=_ from ?_) | refine congrArg I (show 7=_ from ?_) | refine congrArg I (show 3=_ from ?_)
  simp only [Bool.not_eq_eq_eq_not,Bool.not_true,Bool.not_false,decide_eq_true_eq,decide_eq_false_iff_not,beq_iff_eq,beq_eq_false_iff_ne] at *
  unfold wrongCl
  dsimp only
  repeat' split
  all_goals omega

open Go.RowKit Go.Mk

theorem zfW (k a o n:Int) (w:World):Calls Tryz.prog 24 #[.agg #[I k,I a,I o,I n]] w fun e w'=>e=.returned (I (wrongCl ⟨k,a,o,n⟩))/\Ext w w':=by
 have hk2:k < 1∨6 < k∨k=1∨k=2∨k=3∨k=4∨k=5∨k=6:=by omega
 rcases hk2 with hk | hk | rfl | rfl | rfl | rfl | rfl | rfl
 all_goals
  go_enter Tryz.func24,Tryz.ntmps24
  go_wp2
 all_goals
  go_ret
  refine ⟨zer ?_,(Ext.refl w).alloc _⟩
  unfold wrongCl
  dsimp only
  repeat' split
  all_goals omega

open Go.RowKit Go.Mk

abbrev RQ (r:Rq):Value:=.agg #[I r.client,I r.token,I r.call.kind,I r.call.name,I r.call.other,I r.call.n]
abbrev AN (a:An):Value:=.agg #[I a.client,I a.token,I a.reply.err,I a.reply.n]

theorem zex (n a b:Int) (w:World) :
  Calls Tryz.prog 143 #[I n,I a,I b] w fun e w'=>e=.returned (.bool (decide (a<=n/\n<=b)))/\w'=w:=by
 by_cases hi:a<=n
 ·go_enter Tryz.func143,Tryz.ntmps143
  go_wp2
  go_ret
  exact ⟨by simp [hi],rfl⟩
 ·go_enter Tryz.func143,Tryz.ntmps143
  go_wp2
  go_ret
  exact ⟨by simp; omega,rfl⟩

theorem zdS (c t:Int) (w:World) :
  Calls Tryz.prog 130 #[I c,I t] w fun e w'=>e=.returned (.bool (decide (0<=c/\c < 3/\0<=t/\t < 8)))/\w'=w:=by
 by_cases hi:0<=c/\c<=2
 ·have hi':decide (0<=c/\c<=2)=true:=by simp [hi]
  go_enter Tryz.func130,Tryz.ntmps130
  go_wp2_with (go_at_call 143; refine Calls.same (zex _ _ _ _) ?_)
  go_ret
  exact ⟨zcB (by rw [Bool.eq_iff_iff]; simp; omega),rfl⟩
 ·have hi':decide (0<=c/\c<=2)=false:=by simpa using hi
  go_enter Tryz.func130,Tryz.ntmps130
  go_wp2_with (go_at_call 143; refine Calls.same (zex _ _ _ _) ?_)
  go_ret
  exact ⟨zcB (by rw [Bool.eq_iff_iff]; simp; omega),rfl⟩

theorem zeu (c t:Int) (w:World) :
  Calls Tryz.prog 105 #[I c,I t] w fun e w'=>e=.returned (.bool (decide (0<=c/\c < 3/\0<=t/\t < 8)))/\w'=w:=by
 by_cases h0:0<=c
 ·by_cases h1:c < 3
  ·by_cases h2:0<=t
   ·go_enter Tryz.func105,Tryz.ntmps105
    go_wp2
    go_ret
    exact ⟨zcB (by rw [Bool.eq_iff_iff]; simp; omega),rfl⟩
   ·go_enter Tryz.func105,Tryz.ntmps105
    go_wp2
    go_ret
    exact ⟨zcB (by rw [Bool.eq_iff_iff]; simp; omega),rfl⟩
  ·go_enter Tryz.func105,Tryz.ntmps105
   go_wp2
   go_ret
   exact ⟨zcB (by rw [Bool.eq_iff_iff]; simp; omega),rfl⟩
 ·go_enter Tryz.func105,Tryz.ntmps105
  go_wp2
  go_ret
  exact ⟨zcB (by rw [Bool.eq_iff_iff]; simp; omega),rfl⟩

theorem zgC (e0 n:Int) (w:World) :
  Calls Tryz.prog 131 #[.agg #[I e0,I n]] w fun e w'=>e=.returned (.bool (decide (¬ (e0 < 0∨12 < e0∨1073741824 < n∨n < -1073741824∨(0 < e0/\n≠0)))))/\Ext w w':=by
 by_cases hz:e0=0
 ·subst hz;go_enter Tryz.func131,Tryz.ntmps131
  go_wp2_with (go_at_call 143; refine Calls.same (zex _ _ _ _) ?_)
  go_ret
  exact ⟨zcB (by rw [Bool.eq_iff_iff]; simp; omega),(Ext.refl w).alloc _⟩
 have hz':(e0 == 0)=false:=by simpa using hz
 by_cases hi:0<=e0/\e0<=12
 ·have hi':decide (0<=e0/\e0<=12)=true:=by simp [hi]
  go_enter Tryz.func131,Tryz.ntmps131
  go_wp2_with (go_at_call 143; refine Calls.same (zex _ _ _ _) ?_)
  go_ret
  refine ⟨zcB ?_,(Ext.refl w).alloc _⟩;rw [Bool.eq_iff_iff]; simp; omega
 ·have hi':decide (0<=e0/\e0<=12)=false:=by simpa using hi
  go_enter Tryz.func131,Tryz.ntmps131
  go_wp2_with (go_at_call 143; refine Calls.same (zex _ _ _ _) ?_)
  go_ret
  exact ⟨zcB (by rw [Bool.eq_iff_iff]; simp; omega),(Ext.refl w).alloc _⟩

open Go.RowKit Go.Mk

theorem zjo {c t k a o n:Int} (h:¬ (0<=c/\c < 3/\0<=t/\t < 8)):zbJ ⟨c,t,⟨k,a,o,n⟩⟩=3:=if_pos h
theorem ziS {c t k a o n:Int} (h:0<=c/\c < 3/\0<=t/\t < 8):zbJ ⟨c,t,⟨k,a,o,n⟩⟩=wrongCl ⟨k,a,o,n⟩:=if_neg (by simp [h])

theorem ziu (c t k a o n:Int) (w:World) :
  Calls Tryz.prog 125 #[RQ ⟨c,t,⟨k,a,o,n⟩⟩] w fun e w'=>e=.returned (I (zbJ ⟨c,t,⟨k,a,o,n⟩⟩))/\Ext w w':=by
 by_cases hi:0<=c/\c < 3/\0<=t/\t < 8
 ·have hi':decide (0<=c/\c < 3/\0<=t/\t < 8)=true:=decide_eq_true hi;rw [ziS hi];clear hi;go_enter Tryz.func125,Tryz.ntmps125
  go_wp2_with (go_at_call 130; refine Calls.same (zdS _ _ _) ?_)
  refine (zkc k a o n _).to fun r w1 e1 hr=>?_;subst hr;go_wp2
  go_ret
  exact ⟨rfl,((Ext.refl w).alloc _).trans e1⟩
 ·have hi':decide (0<=c/\c < 3/\0<=t/\t < 8)=false:=decide_eq_false hi;rw [zjo hi];clear hi;go_enter Tryz.func125,Tryz.ntmps125
  go_wp2_with (go_at_call 130; refine Calls.same (zdS _ _ _) ?_)
  go_ret
  exact ⟨rfl,(Ext.refl w).alloc _⟩

theorem zhj (c t k a o n:Int) (w:World) :
  Calls Tryz.prog 89 #[RQ ⟨c,t,⟨k,a,o,n⟩⟩] w fun e w'=>e=.returned (I (zbJ ⟨c,t,⟨k,a,o,n⟩⟩))/\Ext w w':=by
 by_cases hi:0<=c/\c < 3/\0<=t/\t < 8
 ·have hi':decide (0<=c/\c < 3/\0<=t/\t < 8)=true:=decide_eq_true hi;rw [ziS hi];clear hi;go_enter Tryz.func89,Tryz.ntmps89
  go_wp2_with (go_at_call 105; refine Calls.same (zeu _ _ _) ?_)
  refine Calls.exts (zfW k a o n _) (fun w1 e1=>?_);go_wp2
  go_ret
  exact ⟨rfl,((Ext.refl w).alloc _).trans e1⟩
 ·have hi':decide (0<=c/\c < 3/\0<=t/\t < 8)=false:=decide_eq_false hi;rw [zjo hi];clear hi;go_enter Tryz.func89,Tryz.ntmps89
  go_wp2_with (go_at_call 105; refine Calls.same (zeu _ _ _) ?_)
  go_ret
  exact ⟨rfl,(Ext.refl w).alloc _⟩

theorem zjF {c t e n:Int} (h:¬ (0<=c/\c < 3/\0<=t/\t < 8)):zbz ⟨c,t,⟨e,n⟩⟩=3:=if_pos (.inl h)
theorem zdZ {c t e n:Int} (_h:0<=c/\c < 3/\0<=t/\t < 8) (h2:e < 0∨12 < e∨1073741824 < n∨n < -1073741824∨(0 < e/\n≠0)):zbz ⟨c,t,⟨e,n⟩⟩=3:=if_pos (.inr h2)
theorem zhO {c t e n:Int} (h:0<=c/\c < 3/\0<=t/\t < 8) (h2:¬ (e < 0∨12 < e∨1073741824 < n∨n < -1073741824∨(0 < e/\n≠0))):zbz ⟨c,t,⟨e,n⟩⟩=0:=if_neg (not_or.2 ⟨by simp [h],h2⟩)

theorem ziY (c t e0 n:Int) (w:World) :
  Calls Tryz.prog 119 #[AN ⟨c,t,⟨e0,n⟩⟩] w fun e w'=>e=.returned (I (zbz ⟨c,t,⟨e0,n⟩⟩))/\Ext w w':=by
 by_cases hi:0<=c/\c < 3/\0<=t/\t < 8
 case neg =>
  have hi':decide (0<=c/\c < 3/\0<=t/\t < 8)=false:=decide_eq_false hi;rw [zjF hi];clear hi;go_enter Tryz.func119,Tryz.ntmps119
  go_wp2_with (go_at_call 130; refine Calls.same (zdS _ _ _) ?_)
  go_ret
  exact ⟨rfl,(Ext.refl w).alloc _⟩
 have hi':decide (0<=c/\c < 3/\0<=t/\t < 8)=true:=decide_eq_true hi;by_cases hj:e0 < 0∨12 < e0∨1073741824 < n∨n < -1073741824∨(0 < e0/\n≠0)
 ·have hj':decide (¬ (e0 < 0∨12 < e0∨1073741824 < n∨n < -1073741824∨(0 < e0/\n≠0)))=false:=decide_eq_false (fun h=>h hj);rw [zdZ hi hj];have hR:=fun wx=>zgC e0 n wx;rw [hj'] at hR;clear hi hj hj';go_enter Tryz.func119,Tryz.ntmps119
  go_wp2_with (first | (go_at_call 130; refine Calls.same (zdS _ _ _) ?_) | (go_at_call 131; refine Calls.exts (hR _) (fun w1 e1=>?_)))
  go_ret
  exact ⟨rfl,((Ext.refl w).alloc _).trans e1⟩
 ·have hj':decide (¬ (e0 < 0∨12 < e0∨1073741824 < n∨n < -1073741824∨(0 < e0/\n≠0)))=true:=decide_eq_true hj;rw [zhO hi hj];have hR:=fun wx=>zgC e0 n wx;rw [hj'] at hR;clear hi hj hj';go_enter Tryz.func119,Tryz.ntmps119
  go_wp2_with (first | (go_at_call 130; refine Calls.same (zdS _ _ _) ?_) | (go_at_call 131; refine Calls.exts (hR _) (fun w1 e1=>?_)))
  go_ret
  exact ⟨rfl,((Ext.refl w).alloc _).trans e1⟩

theorem zhJ (c t e0 n:Int) (w:World) :
  Calls Tryz.prog 86 #[AN ⟨c,t,⟨e0,n⟩⟩] w fun e w'=>e=.returned (I (zbz ⟨c,t,⟨e0,n⟩⟩))/\Ext w w':=by
 by_cases hi:0<=c/\c < 3/\0<=t/\t < 8
 case neg =>
  have hi':decide (0<=c/\c < 3/\0<=t/\t < 8)=false:=decide_eq_false hi;rw [zjF hi];clear hi;go_enter Tryz.func86,Tryz.ntmps86
  go_wp2_with (go_at_call 105; refine Calls.same (zeu _ _ _) ?_)
  go_ret
  exact ⟨rfl,(((Ext.refl w).alloc _).alloc _)⟩
 have hi':decide (0<=c/\c < 3/\0<=t/\t < 8)=true:=decide_eq_true hi;have h5:e0 < 0∨12 < e0∨1073741824 < n∨n < -1073741824∨(0 < e0/\n≠0)∨¬ (e0 < 0∨12 < e0∨1073741824 < n∨n < -1073741824∨(0 < e0/\n≠0)):=by omega
 have e1:Ext w (((w.alloc (.cells #[I c,I t,I e0,I n] 97)).alloc (.cells #[I e0,I n] 39))):=(((Ext.refl w).alloc _).alloc _);have HI:=zhd hi;clear hi;by_cases q1:e0 < 0
 ·rw [zdZ HI.o (.inl q1)];go_enter Tryz.func86,Tryz.ntmps86
  go_wp2_with (go_at_call 105; refine Calls.same (zeu _ _ _) ?_)
  go_ret
  exact ⟨rfl,e1⟩
 by_cases q2:12 < e0
 ·rw [zdZ HI.o (.inr (.inl q2))];go_enter Tryz.func86,Tryz.ntmps86
  go_wp2_with (go_at_call 105; refine Calls.same (zeu _ _ _) ?_)
  go_ret
  exact ⟨rfl,e1⟩
 by_cases q3:1073741824 < n
 ·rw [zdZ HI.o (.inr (.inr (.inl q3)))];go_enter Tryz.func86,Tryz.ntmps86
  go_wp2_with (go_at_call 105; refine Calls.same (zeu _ _ _) ?_)
  go_ret
  exact ⟨rfl,e1⟩
 by_cases q4:n < -1073741824
 ·rw [zdZ HI.o (.inr (.inr (.inr (.inl q4))))];go_enter Tryz.func86,Tryz.ntmps86
  go_wp2_with (go_at_call 105; refine Calls.same (zeu _ _ _) ?_)
  go_ret
  exact ⟨rfl,e1⟩
 by_cases q5:0 < e0
 ·by_cases q6:n=0
  ·rw [zhO HI.o (by omega)];have q7:(n != 0)=false:=by simp [q6]
   go_enter Tryz.func86,Tryz.ntmps86
   go_wp2_with (go_at_call 105; refine Calls.same (zeu _ _ _) ?_)
   go_ret
   exact ⟨rfl,(((Ext.refl w).alloc _).alloc _)⟩
  ·rw [zdZ HI.o (.inr (.inr (.inr (.inr ⟨q5,q6⟩))))];have q7:(n != 0)=true:=by simpa using q6
   go_enter Tryz.func86,Tryz.ntmps86
   go_wp2_with (go_at_call 105; refine Calls.same (zeu _ _ _) ?_)
   go_ret
   exact ⟨rfl,e1⟩
 ·rw [zhO HI.o (by omega)];go_enter Tryz.func86,Tryz.ntmps86
  go_wp2_with (go_at_call 105; refine Calls.same (zeu _ _ _) ?_)
  go_ret
  exact ⟨rfl,e1⟩

open Go.RowKit Go.Mk

theorem zf4 (v:Value) (l:List UInt8) (m:UInt8) (n:Nat) (hn:0 < n) (w:World) (hv:zbd w v l) :
  Calls Tryz.prog 117 #[v,U m,I n] w fun e w'=>e=.returned (.bool (decide (l.length=n/\l.getD 0 0=m)))/\w'=w:=by
 obtain ⟨ao,cap,rfl,h1,h2,h3⟩:=hv.form;unfold maxLen at h2;clear hv;by_cases hl:l.length=n
 ·obtain ⟨b,off,rfl,hc⟩:=h3 0 (by omega);clear h3;simp only [Nat.add_zero] at hc;rw [hl] at h1 ⊢;generalize l.getD 0 0=x at *
  have hu:((x.toNat:Int) == (m.toNat:Int))=decide (x=m):=by
   rw [Bool.eq_iff_iff]; simp; exact ⟨fun h=>UInt8.toNat_inj.1 (by omega),fun h=>by rw [h]⟩
  go_enter Tryz.func117,Tryz.ntmps117
  go_wp2
  go_ret
  exact ⟨by simp,rfl⟩
 ·have hne:(((l.length:Int)) == (n:Int))=false:=by rw [beq_eq_false_iff_ne]; omega
  clear h3;go_enter Tryz.func117,Tryz.ntmps117
  go_wp2
  go_ret
  exact ⟨by simp [hl],rfl⟩

theorem zjP (x y i m:Nat) (hm:m=2 ^ i) (h:y < m):(x * m) ||| y=x * m+y:=by
 subst hm
 rw [<- Nat.shiftLeft_eq,Nat.shiftLeft_add_eq_or_of_lt h]

theorem ztu (a b c d:Nat) (ha:a < 256) (hb:b < 256) (hc:c < 256) (hd:d < 256) :
  bits BinOp.or IntKind.u32 (bits BinOp.or IntKind.u32 (bits BinOp.or IntKind.u32 ((a:Int) % 4294967296 * 16777216 % 4294967296) ((b:Int) % 4294967296 * 65536 % 4294967296)) ((c:Int) % 4294967296 * 256 % 4294967296)) ((d:Int) % 4294967296)
   = ((((a * 256+b) * 256+c) * 256+d:Nat):Int):=by
 have e0:((a:Int) % 4294967296 * 16777216 % 4294967296)=((a * 16777216:Nat):Int):=by omega
 have e1:((b:Int) % 4294967296 * 65536 % 4294967296)=((b * 65536:Nat):Int):=by omega
 have e2:((c:Int) % 4294967296 * 256 % 4294967296)=((c * 256:Nat):Int):=by omega
 have e3:((d:Int) % 4294967296)=((d:Nat):Int):=by omega
 rw [e0,e1,e2,e3,u32_or_nat _ _ (by omega) (by omega),zjP a (b * 65536) 24 16777216 (by decide) (by omega),
  show a * 16777216+b * 65536=(a * 256+b) * 65536 by omega,u32_or_nat _ _ (by omega) (by omega),zjP (a * 256+b) (c * 256) 16 65536 (by decide) (by omega),
  show (a * 256+b) * 65536+c * 256=((a * 256+b) * 256+c) * 256 by omega,u32_or_nat _ _ (by omega) (by omega),zjP _ d 8 256 (by decide) (by omega)]

theorem zjL (n:Nat) (h:n < 4294967296):wrap64 (wrap32 (n:Int))=zmI n:=by
 unfold wrap64 wrap32 zmI
 split <;> omega

theorem zoo (a b c d:UInt8):wrap64 (wrap32 (bits BinOp.or IntKind.u32 (bits BinOp.or IntKind.u32 (bits BinOp.or IntKind.u32 ((a.toNat:Int) % 4294967296 * 16777216 % 4294967296) ((b.toNat:Int) % 4294967296 * 65536 % 4294967296)) ((c.toNat:Int) % 4294967296 * 256 % 4294967296)) ((d.toNat:Int) % 4294967296)))=numB [a,b,c,d]:=by
 have ha:=a.toNat_lt
 have hb:=b.toNat_lt
 have hc:=c.toNat_lt
 have hd:=d.toNat_lt
 rw [ztu _ _ _ _ ha hb hc hd,zjL _ (by omega)]
 rfl

theorem zjm (v:Value) (a b c d:UInt8) (w:World) (hv:zbd w v [a,b,c,d]) :
  Calls Tryz.prog 118 #[v] w fun e w'=>e=.returned (I (numB [a,b,c,d]))/\Ext w w':=by
 obtain ⟨ao,cap,rfl,h1,h2,h3⟩:=hv.form;unfold maxLen at h2;clear hv;obtain ⟨b0,off,rfl,c0⟩:=h3 0 (by simp);obtain ⟨_,_,e1,c1⟩:=h3 1 (by simp);obtain ⟨_,_,e2,c2⟩:=h3 2 (by simp);obtain ⟨_,_,e3,c3⟩:=h3 3 (by simp);simp only [Option.some.injEq,Addr.mk.injEq,and_true] at e1 e2 e3;obtain ⟨rfl,rfl⟩:=e1;obtain ⟨rfl,rfl⟩:=e2;obtain ⟨rfl,rfl⟩:=e3;clear h3;simp only [Nat.add_zero,List.getD_cons_zero,List.getD_cons_succ,List.length_cons,List.length_nil] at *;go_enter Tryz.func118,Tryz.ntmps118
 go_wp2_with fail
 go_region
 go_wp2
 go_ret
 exact ⟨zer (zoo a b c d),(Ext.refl w).drew⟩

theorem zoT (v:Value) (a b c d:UInt8) (w:World) (hv:zbd w v [a,b,c,d]) :
  Calls Tryz.prog 85 #[v] w fun e w'=>e=.returned (I (numB [a,b,c,d]))/\Ext w w':=by
 obtain ⟨ao,cap,rfl,h1,h2,h3⟩:=hv.form;unfold maxLen at h2;clear hv;obtain ⟨b0,off,rfl,c0⟩:=h3 0 (by simp);obtain ⟨_,_,e1,c1⟩:=h3 1 (by simp);obtain ⟨_,_,e2,c2⟩:=h3 2 (by simp);obtain ⟨_,_,e3,c3⟩:=h3 3 (by simp);simp only [Option.some.injEq,Addr.mk.injEq,and_true] at e1 e2 e3;obtain ⟨rfl,rfl⟩:=e1;obtain ⟨rfl,rfl⟩:=e2;obtain ⟨rfl,rfl⟩:=e3;clear h3;simp only [Nat.add_zero,List.getD_cons_zero,List.getD_cons_succ,List.length_cons,List.length_nil] at *;go_enter Tryz.func85,Tryz.ntmps85
 go_wp2
 go_loop [3,5] (fun u i=>(i=I 0/\u=.int .u32 0)∨(i=I 1/\u=.int .u32 (a.toNat:Int))∨(i=I 2/\u=.int .u32 ((a.toNat * 256+b.toNat:Nat):Int))∨(i=I 3/\u=.int .u32 (((a.toNat * 256+b.toNat) * 256+c.toNat:Nat):Int)) ∨
   (i=I 4/\u=.int .u32 ((((a.toNat * 256+b.toNat) * 256+c.toNat) * 256+d.toNat:Nat):Int))) (fun _ i=>4 - (intOf i).toNat)
 case atStart=>exact .inl ⟨rfl,rfl⟩
 case round =>
  have ha:=a.toNat_lt;have hb:=b.toNat_lt;have hc:=c.toNat_lt;have hd:=d.toNat_lt;rcases hrel with ⟨rfl,rfl⟩ | ⟨rfl,rfl⟩ | ⟨rfl,rfl⟩ | ⟨rfl,rfl⟩ | ⟨rfl,rfl⟩
  ·go_wp2
   go_round
   case rel=>exact .inr (.inl ⟨rfl,by simp⟩)
   case measure=>simp [intOf]
  ·go_wp2
   go_round
   case rel=>exact .inr (.inr (.inl ⟨rfl,congrArg (Value.int .u32) (by omega)⟩))
   case measure=>simp [intOf]
  ·go_wp2
   go_round
   case rel=>exact .inr (.inr (.inr (.inl ⟨rfl,congrArg (Value.int .u32) (by omega)⟩)))
   case measure=>simp [intOf]
  ·go_wp2
   go_round
   case rel=>exact .inr (.inr (.inr (.inr ⟨rfl,congrArg (Value.int .u32) (by omega)⟩)))
   case measure=>simp [intOf]
  ·go_wp2
   go_ret
   exact ⟨zer (Eq.trans (congrArg (fun x=>wrap64 (wrap32 x)) (by omega)) (zjL (((a.toNat * 256+b.toNat) * 256+c.toNat) * 256+d.toNat) (by omega))),Ext.refl w⟩

open Go.RowKit Go.Mk

theorem Tryz.infoByte:(Tryz.prog.info? 5).map (fun i=>(i.zero,i.size,i.bytes))=some (some (.int .u8 0),1,1):=by kernel_rfl

theorem byteU (n:Int):(Value.int .u8 (n % 256))=U (Mk.byteOf n):=by
 unfold Mk.byteOf
 refine congrArg (Value.int .u8) ?_
 rw [UInt8.toNat_ofNat']
 omega

theorem zjD (n:Int):[Value.int .u8 (n % 4294967296 / 16777216),.int .u8 (n % 4294967296 / 65536 % 256),.int .u8 (n % 4294967296 / 256 % 256),.int .u8 (n % 256)]=(zdG n).map U:=by
 unfold zdG u32
 simp only [List.map_cons,List.map_nil,U,UInt8.toNat_ofNat']
 refine congr (congrArg List.cons (congrArg (Value.int .u8) ?_)) (congr (congrArg List.cons (congrArg (Value.int .u8) ?_)) (congr (congrArg List.cons (congrArg (Value.int .u8) ?_)) (congrArg (fun x=>[Value.int .u8 x]) ?_)))
 all_goals omega

theorem znl (n:Int) (w:World) :
  Calls Tryz.prog 87 #[I n] w fun e w'=>e=.returned (.string ⟨(zdG n).toArray⟩)/\Ext w w':=by
 have hcv:=zdO (P:=Tryz.prog) (zg2 (w:=w) 5 (zdG n) #[.int .u8 (n % 4294967296 / 16777216),.int .u8 (n % 4294967296 / 65536 % 256),.int .u8 (n % 4294967296 / 256 % 256),.int .u8 (n % 256)] 4 (zjD n) rfl (by decide)) zit zu5 zu9;go_enter Tryz.func87,Tryz.ntmps87
 go_wp2
 go_ret
 exact ⟨rfl,(Ext.refl w).alloc _⟩

theorem zfJ (base:Nat) (v:Value) (cs:List Value) (k:Nat) (n:Int) (w:World) (hv:w.ownsRow base 5 1 v k cs) (hk:k<=100) (hb:base<=w.heap.size) :
  Calls Tryz.prog 109 #[v,I n] w fun e w'=>∃ v',e=.returned v'/\w'.ownsRow base 5 1 v' (k+4) (cs++(zdG n).map U)/\w.grownBy w' v.ownBlock:=by
 have hlit:=zg2 (w:=w) 5 (zdG n) #[.int .u8 (n % 4294967296 / 16777216),.int .u8 (n % 4294967296 / 65536 % 256),.int .u8 (n % 4294967296 / 256 % 256),.int .u8 (n % 256)] 4 (zjD n) rfl (by decide);have hgr:w.grownBy (w.alloc (.cells #[.int .u8 (n % 4294967296 / 16777216),.int .u8 (n % 4294967296 / 65536 % 256),.int .u8 (n % 4294967296 / 256 % 256),.int .u8 (n % 256)] 5)) v.ownBlock:=Ext.grownBy ((Ext.refl w).alloc _) _;have HV:=zhd hv;clear hv;go_enter Tryz.func109,Tryz.ntmps109
 go_wp2_with (at_builtin; refine zbG ?_)
 unfold Hid;obtain ⟨i0,hi,hz0,hz1,hz2⟩:=info_parts Tryz.infoByte;refine zaA _ rfl (.tmp 8) (.tmp 20) 81 rfl base 5 i0 (.int .u8 0) 1 1 zit hi hz0 hz1 hz2 rfl (by decide) v k cs rfl (HV.o.alloc _) _ rfl 4 ((zdG n).map U) hlit (znq _) (by omega) (by decide) (by simp; omega) ?_;intro v' w' ho hg;clear hi hz0 hz1 hz2 hlit;go_wp2
 go_ret
 exact ⟨v',rfl,ho,za3 hgr hg⟩

open Go.RowKit Go.Mk

theorem zp9 {w:World} {base e:Nat} (b:Nat) (cs:Array Value) (n:Nat) (hb:w.heap.size=b) (hbase:base<=b) (hm:n<=maxLen) (hc:cs.size=n):(w.alloc (.cells cs e)).ownsRow base e 1 (.slice (some ⟨b,0,none⟩) n n) n cs.toList:=by
 subst hb
 exact World.ownsRow_lit (base:=base) (e:=e) (size:=1) w cs n hbase hm (by omega)

theorem zpi (c t k a o n:Int):[Value.int .u8 113,.int .u8 (c % 256),.int .u8 (t % 256),.int .u8 (k % 256),.int .u8 (a % 256),.int .u8 (o % 256)]++(zdG n).map U=(zbA ⟨c,t,⟨k,a,o,n⟩⟩).map U:=by
 rw [byteU,byteU,byteU,byteU,byteU]
 unfold zbA
 rw [List.map_append]
 rfl
theorem zpK (c t e0 n:Int):[Value.int .u8 97,.int .u8 (c % 256),.int .u8 (t % 256),.int .u8 (e0 % 256)]++(zdG n).map U=(zb1 ⟨c,t,⟨e0,n⟩⟩).map U:=by
 rw [byteU,byteU,byteU]
 unfold zb1
 rw [List.map_append]
 rfl

theorem zmG (c t k a o n:Int) (w:World) :
  Calls Tryz.prog 95 #[RQ ⟨c,t,⟨k,a,o,n⟩⟩] w fun e w'=>∃ v',e=.returned v'/\w'.ownsRow w.heap.size 5 1 v' 10 ((zbA ⟨c,t,⟨k,a,o,n⟩⟩).map U)/\Ext w w':=by
 go_enter Tryz.func95,Tryz.ntmps95
 go_wp2_with fail
 refine (zfJ w.heap.size _ _ 6 n _ (zp9 (w.heap.size+1+1) _ 6 (by simp) (by omega) (by decide) rfl) (by decide) (by simp; omega)).mono ?_;rintro e w1 ⟨v',rfl,ho,hg⟩
 have e1:Ext w w1:=Ext.grown ((((Ext.refl w).alloc _).alloc _).alloc _) hg (fun j hj=>by simp [Value.ownBlock] at hj; omega);clear hg;go_wp2
 go_ret
 exact ⟨v',rfl,by rw [<- zpi]; exact ho,e1⟩

theorem zjZ (c t e0 n:Int) (w:World) :
  Calls Tryz.prog 114 #[AN ⟨c,t,⟨e0,n⟩⟩] w fun e w'=>∃ v',e=.returned v'/\w'.ownsRow w.heap.size 5 1 v' 8 ((zb1 ⟨c,t,⟨e0,n⟩⟩).map U)/\Ext w w':=by
 go_enter Tryz.func114,Tryz.ntmps114
 go_wp2_with fail
 refine (zfJ w.heap.size _ _ 4 n _ (zp9 (w.heap.size+1) _ 4 (by simp) (by omega) (by decide) rfl) (by decide) (by simp; omega)).mono ?_;rintro e w1 ⟨v',rfl,ho,hg⟩
 have e1:Ext w w1:=Ext.grown (((Ext.refl w).alloc _).alloc _) hg (fun j hj=>by simp [Value.ownBlock] at hj; omega);clear hg;go_wp2
 go_ret
 exact ⟨v',rfl,by rw [<- zpK]; exact ho,e1⟩

open Go.RowKit Go.Mk

theorem wrapU (n:Int):(Value.int .u8 (IntKind.u8.wrap n))=U (Mk.byteOf n):=by
 rw [<- byteU]
 refine congrArg (Value.int .u8) ?_
 unfold IntKind.wrap
 simp [IntKind.signed,IntKind.bits]

theorem zfU (c t k a o n:Int) (w:World) :
  zaT Tryz.prog 60 #[RQ ⟨c,t,⟨k,a,o,n⟩⟩] w fun v w'=>zdy w.heap.size w' v (zbA ⟨c,t,⟨k,a,o,n⟩⟩):=by
 unfold zaT;have e0:Ext w (w.alloc (.cells #[I c,I t,I k,I a,I o,I n] 36)):=(Ext.refl w).alloc _
 have HB:Hid (∀ wx,Ext (w.alloc (.cells #[I c,I t,I k,I a,I o,I n] 36)) wx->wx.cell? ⟨w.heap.size,0,none⟩=some (I c)/\wx.cell? ⟨w.heap.size,1,none⟩=some (I t)/\wx.cell? ⟨w.heap.size,2,none⟩=some (I k)/\wx.cell? ⟨w.heap.size,3,none⟩=some (I a)/\wx.cell? ⟨w.heap.size,4,none⟩=some (I o)/\wx.cell? ⟨w.heap.size,5,none⟩=some (I n)):=fun wx hx =>
  ⟨hx.cell (by simp),hx.cell (by simp),hx.cell (by simp),hx.cell (by simp),hx.cell (by simp),hx.cell (by simp)⟩
 go_enter Tryz.func60,Tryz.ntmps60
 go_wp2_with fail
 generalize hw0:w.alloc (.cells #[I c,I t,I k,I a,I o,I n] 36)=w0 at *;have HW0:=zhd hw0;clear hw0;obtain ⟨c0,c1,c2,c3,c4,c5⟩:=HB.o w0 (Ext.refl _)
 refine zbe [none,none,none,none,none,none,none,none,none,none,none,none,none,none,none,none,none,none,
  some (.inr fun v wx=>zbd wx v [Mk.byteOf c,Mk.byteOf t,Mk.byteOf k,Mk.byteOf a,Mk.byteOf o]),some (.inl (.string ⟨#[Mk.byteOf c,Mk.byteOf t,Mk.byteOf k,Mk.byteOf a,Mk.byteOf o]⟩)),some (.inl (.string ⟨#[113,Mk.byteOf c,Mk.byteOf t,Mk.byteOf k,Mk.byteOf a,Mk.byteOf o]⟩)),none,none,none,
  some (.inl (.string ⟨(zdG n).toArray⟩)),some (.inl (.string ⟨(zbA ⟨c,t,⟨k,a,o,n⟩⟩).toArray⟩)),some (.inr fun v wx=>zdy w.heap.size wx v (zbA ⟨c,t,⟨k,a,o,n⟩⟩)),none] (by kernel_rfl) (by kernel_rfl) ?_ ?_
 ·exact ⟨trivial,trivial,trivial,trivial,trivial,trivial,trivial,trivial,trivial,trivial,trivial,trivial,trivial,trivial,trivial,trivial,trivial,trivial,zk2 _,trivial,trivial,trivial,trivial,trivial,trivial,trivial,zfp _ _,trivial,trivial⟩
 (refine zap (fun K hK=>?_); go_simp; refine hK _ ?_; clear hK K)
 refine zay (I c) rfl (fun w' hw'=>by have q0:=hw'.cell c0; go_simp) ?_;iterate 2 (refine zap (fun K hK=>?_); go_simp; refine hK _ ?_; clear hK K)
 refine zay (I t) rfl (fun w' hw'=>by have q0:=hw'.cell c1; go_simp) ?_;iterate 3 (refine zap (fun K hK=>?_); go_simp; refine hK _ ?_; clear hK K)
 refine zay (I k) rfl (fun w' hw'=>by have q0:=hw'.cell c2; go_simp) ?_;iterate 3 (refine zap (fun K hK=>?_); go_simp; refine hK _ ?_; clear hK K)
 refine zay (I a) rfl (fun w' hw'=>by have q0:=hw'.cell c3; go_simp) ?_;iterate 3 (refine zap (fun K hK=>?_); go_simp; refine hK _ ?_; clear hK K)
 refine zay (I o) rfl (fun w' hw'=>by have q0:=hw'.cell c4; go_simp) ?_;(refine zap (fun K hK=>?_); go_simp; refine hK _ ?_; clear hK K)
 refine zbb _ rfl (fun w' hw' _=>?_) (fun v21=>?_)
 ·unfold zaQ;go_simp
  exact ⟨(Ext.refl _).alloc _,zg2 _ _ _ 5 (by rw [wrapU,wrapU,wrapU,wrapU,wrapU]; rfl) rfl (by decide)⟩
 refine zdp _ rfl (fun w' hw' hk=>?_) ?_
 ·have h21:zbd w' v21 [Mk.byteOf c,Mk.byteOf t,Mk.byteOf k,Mk.byteOf a,Mk.byteOf o]:=hk 21 (by decide);have hcv:=zdO (P:=Tryz.prog) h21 zit zu5 zu9;clear hk;unfold zaQ;go_simp
  exact ⟨Ext.refl _,rfl⟩
 refine zai fun K h=>?_; go_simp; refine h _ ?_; clear h K;refine zdp _ rfl (fun w' hw' _=>?_) ?_
 ·have ha:=run_string_add_lists (P:=Tryz.prog) w' [113] [Mk.byteOf c,Mk.byteOf t,Mk.byteOf k,Mk.byteOf a,Mk.byteOf o] (by decide) (by simp);unfold zaQ;go_simp
  exact ⟨Ext.refl _,rfl⟩
 refine zai fun K h=>?_; go_simp; refine h _ ?_; clear h K;iterate 2 (refine zap (fun K hK=>?_); go_simp; refine hK _ ?_; clear hK K)
 refine zay (I n) rfl (fun w' hw'=>by have q0:=hw'.cell c5; go_simp) ?_;refine zdp _ rfl (fun w' hw' _=>?_) ?_
 ·have hg:=zcb (znl n w');unfold zaQ;go_simp
  exact ⟨Ext.refl _,hg⟩
 refine zai fun K h=>?_; go_simp; refine h _ ?_; clear h K;refine zdp _ rfl (fun w' hw' _=>?_) ?_
 ·have ha:=run_string_add_lists (P:=Tryz.prog) w' [113,Mk.byteOf c,Mk.byteOf t,Mk.byteOf k,Mk.byteOf a,Mk.byteOf o] (zdG n) (by simp) (by simp [zdG]);unfold zaQ;go_simp
  exact ⟨Ext.refl _,rfl⟩
 refine zai fun K h=>?_; go_simp; refine h _ ?_; clear h K;refine zbb _ rfl (fun w' hw' _=>?_) (fun v29=>?_)
 ·have ha:=run_bytes_of_string (P:=Tryz.prog) w' 9 81 5 ⟨(zbA ⟨c,t,⟨k,a,o,n⟩⟩).toArray⟩ zu9 zit zu5;unfold zaQ;go_simp
  exact ⟨(Ext.refl _).drew.alloc _,_,_,_,_,rfl,Nat.le_trans (by rw [<- HW0.o]; simp) hw'.size,zgw w' 5 (zbA ⟨c,t,⟨k,a,o,n⟩⟩) (show 10<=maxLen by decide) _⟩
 (refine zap (fun K hK=>?_); go_simp; refine hK _ ?_; clear hK K)
 refine zaP ?_;intro w4 he4 hX;have hr:zdy w.heap.size w4 v29 (zbA ⟨c,t,⟨k,a,o,n⟩⟩):=hX 29;clear hX c0 c1 c2 c3 c4 c5;go_wp2
 go_ret
 exact ⟨v29,rfl,e0.trans he4,hr⟩

theorem zgu (c t x n:Int) (w:World) :
  zaT Tryz.prog 62 #[AN ⟨c,t,⟨x,n⟩⟩] w fun v w'=>zdy w.heap.size w' v (zb1 ⟨c,t,⟨x,n⟩⟩):=by
 unfold zaT;have e0:Ext w (w.alloc (.cells #[I c,I t,I x,I n] 97)):=(Ext.refl w).alloc _
 have HB:Hid (∀ wx,Ext (w.alloc (.cells #[I c,I t,I x,I n] 97)) wx->wx.cell? ⟨w.heap.size,0,none⟩=some (I c)/\wx.cell? ⟨w.heap.size,1,none⟩=some (I t)/\wx.cell? ⟨w.heap.size,2,none⟩=some (I x)/\wx.cell? ⟨w.heap.size,3,none⟩=some (I n)):=fun wx hx =>
  ⟨hx.cell (by simp),hx.cell (by simp),hx.cell (by simp),hx.cell (by simp)⟩
 go_enter Tryz.func62,Tryz.ntmps62
 go_wp2_with fail
 generalize hw0:w.alloc (.cells #[I c,I t,I x,I n] 97)=w0 at *;have HW0:=zhd hw0;clear hw0;obtain ⟨c0,c1,c2,c3⟩:=HB.o w0 (Ext.refl _)
 refine zbe [none,none,none,none,none,none,none,none,none,none,
  some (.inr fun v wx=>zbd wx v [Mk.byteOf c,Mk.byteOf t,Mk.byteOf x]),some (.inl (.string ⟨#[Mk.byteOf c,Mk.byteOf t,Mk.byteOf x]⟩)),some (.inl (.string ⟨#[97,Mk.byteOf c,Mk.byteOf t,Mk.byteOf x]⟩)),none,none,none,
  some (.inl (.string ⟨(zdG n).toArray⟩)),some (.inl (.string ⟨(zb1 ⟨c,t,⟨x,n⟩⟩).toArray⟩)),some (.inr fun v wx=>zdy w.heap.size wx v (zb1 ⟨c,t,⟨x,n⟩⟩)),none] (by kernel_rfl) (by kernel_rfl) ?_ ?_
 ·exact ⟨trivial,trivial,trivial,trivial,trivial,trivial,trivial,trivial,trivial,trivial,zk2 _,trivial,trivial,trivial,trivial,trivial,trivial,trivial,zfp _ _,trivial,trivial⟩
 (refine zap (fun K hK=>?_); go_simp; refine hK _ ?_; clear hK K)
 refine zay (I c) rfl (fun w' hw'=>by have q0:=hw'.cell c0; go_simp) ?_;iterate 2 (refine zap (fun K hK=>?_); go_simp; refine hK _ ?_; clear hK K)
 refine zay (I t) rfl (fun w' hw'=>by have q0:=hw'.cell c1; go_simp) ?_;iterate 3 (refine zap (fun K hK=>?_); go_simp; refine hK _ ?_; clear hK K)
 refine zay (I x) rfl (fun w' hw'=>by have q0:=hw'.cell c2; go_simp) ?_;(refine zap (fun K hK=>?_); go_simp; refine hK _ ?_; clear hK K)
 refine zbb _ rfl (fun w' hw' _=>?_) (fun v13=>?_)
 ·unfold zaQ;go_simp
  exact ⟨(Ext.refl _).alloc _,zg2 _ _ _ 3 (by rw [wrapU,wrapU,wrapU]; rfl) rfl (by decide)⟩
 refine zdp _ rfl (fun w' hw' hk=>?_) ?_
 ·have h13:zbd w' v13 [Mk.byteOf c,Mk.byteOf t,Mk.byteOf x]:=hk 13 (by decide);have hcv:=zdO (P:=Tryz.prog) h13 zit zu5 zu9;clear hk;unfold zaQ;go_simp
  exact ⟨Ext.refl _,rfl⟩
 refine zai fun K h=>?_; go_simp; refine h _ ?_; clear h K;refine zdp _ rfl (fun w' hw' _=>?_) ?_
 ·have ha:=run_string_add_lists (P:=Tryz.prog) w' [97] [Mk.byteOf c,Mk.byteOf t,Mk.byteOf x] (by decide) (by simp);unfold zaQ;go_simp
  exact ⟨Ext.refl _,rfl⟩
 refine zai fun K h=>?_; go_simp; refine h _ ?_; clear h K;iterate 2 (refine zap (fun K hK=>?_); go_simp; refine hK _ ?_; clear hK K)
 refine zay (I n) rfl (fun w' hw'=>by have q0:=hw'.cell c3; go_simp) ?_;refine zdp _ rfl (fun w' hw' _=>?_) ?_
 ·have hg:=zcb (znl n w');unfold zaQ;go_simp
  exact ⟨Ext.refl _,hg⟩
 refine zai fun K h=>?_; go_simp; refine h _ ?_; clear h K;refine zdp _ rfl (fun w' hw' _=>?_) ?_
 ·have ha:=run_string_add_lists (P:=Tryz.prog) w' [97,Mk.byteOf c,Mk.byteOf t,Mk.byteOf x] (zdG n) (by simp) (by simp [zdG]);unfold zaQ;go_simp
  exact ⟨Ext.refl _,rfl⟩
 refine zai fun K h=>?_; go_simp; refine h _ ?_; clear h K;refine zbb _ rfl (fun w' hw' _=>?_) (fun v21=>?_)
 ·have ha:=run_bytes_of_string (P:=Tryz.prog) w' 9 81 5 ⟨(zb1 ⟨c,t,⟨x,n⟩⟩).toArray⟩ zu9 zit zu5;unfold zaQ;go_simp
  exact ⟨(Ext.refl _).drew.alloc _,_,_,_,_,rfl,Nat.le_trans (by rw [<- HW0.o]; simp) hw'.size,zgw w' 5 (zb1 ⟨c,t,⟨x,n⟩⟩) (show 8<=maxLen by decide) _⟩
 (refine zap (fun K hK=>?_); go_simp; refine hK _ ?_; clear hK K)
 refine zaP ?_;intro w4 he4 hX;have hr:zdy w.heap.size w4 v21 (zb1 ⟨c,t,⟨x,n⟩⟩):=hX 21;clear hX c0 c1 c2 c3;go_wp2
 go_ret
 exact ⟨v21,rfl,e0.trans he4,hr⟩

open Go.RowKit Go.Mk

theorem zoL {w:World} {v:Value} {b0 b1 b2 b3 b4 b5 b6 b7 b8 b9:UInt8} (h:zbd w v [b0,b1,b2,b3,b4,b5,b6,b7,b8,b9]):∃ b off cap,v=.slice (some ⟨b,off,none⟩) 10 cap/\10<=cap/\cap<=maxLen /\
  (w.cell? ⟨b,off,none⟩=some (U b0)/\w.cell? ⟨b,off+1,none⟩=some (U b1)/\w.cell? ⟨b,off+2,none⟩=some (U b2)/\w.cell? ⟨b,off+3,none⟩=some (U b3)/\w.cell? ⟨b,off+4,none⟩=some (U b4)/\w.cell? ⟨b,off+5,none⟩=some (U b5)) /\
   zbd w (.slice (some ⟨b,off+6,none⟩) 4 (cap - 6)) [b6,b7,b8,b9]:=by
 obtain ⟨ao,cap,rfl,h1,h2,h3⟩:=h.form
 obtain ⟨b,off,rfl,c0⟩:=h3 0 (by simp)
 refine ⟨b,off,cap,rfl,h1,h2,⟨c0,?_,?_,?_,?_,?_⟩,h.drop 6 (by simp)⟩
 ·obtain ⟨_,_,e1,c1⟩:=h3 1 (by simp); cases e1; exact c1
 ·obtain ⟨_,_,e1,c1⟩:=h3 2 (by simp); cases e1; exact c1
 ·obtain ⟨_,_,e1,c1⟩:=h3 3 (by simp); cases e1; exact c1
 ·obtain ⟨_,_,e1,c1⟩:=h3 4 (by simp); cases e1; exact c1
 ·obtain ⟨_,_,e1,c1⟩:=h3 5 (by simp); cases e1; exact c1

theorem zqq {w:World} {v:Value} {b0 b1 b2 b3 b4 b5 b6 b7:UInt8} (h:zbd w v [b0,b1,b2,b3,b4,b5,b6,b7]):∃ b off cap,v=.slice (some ⟨b,off,none⟩) 8 cap/\8<=cap/\cap<=maxLen /\
  (w.cell? ⟨b,off,none⟩=some (U b0)/\w.cell? ⟨b,off+1,none⟩=some (U b1)/\w.cell? ⟨b,off+2,none⟩=some (U b2)/\w.cell? ⟨b,off+3,none⟩=some (U b3)) /\
   zbd w (.slice (some ⟨b,off+4,none⟩) 4 (cap - 4)) [b4,b5,b6,b7]:=by
 obtain ⟨ao,cap,rfl,h1,h2,h3⟩:=h.form
 obtain ⟨b,off,rfl,c0⟩:=h3 0 (by simp)
 refine ⟨b,off,cap,rfl,h1,h2,⟨c0,?_,?_,?_⟩,h.drop 4 (by simp)⟩
 ·obtain ⟨_,_,e1,c1⟩:=h3 1 (by simp); cases e1; exact c1
 ·obtain ⟨_,_,e1,c1⟩:=h3 2 (by simp); cases e1; exact c1
 ·obtain ⟨_,_,e1,c1⟩:=h3 3 (by simp); cases e1; exact c1

theorem zfK (x:UInt8):IntKind.i64.wrap (x.toNat:Int)=(x.toNat:Int):=by
 have:=x.toNat_lt
 unfold IntKind.wrap
 simp [IntKind.signed,IntKind.bits]
 omega

theorem ziV {l:List UInt8} (h:¬ (l.length=10/\l.getD 0 0=113)):readRq l=(zeroRq,2):=if_pos (by by_cases h1:l.length=10 <;> simp_all)
theorem ziU {l:List UInt8} (h:¬ (l.length=8/\l.getD 0 0=97)):readAn l=(zeroAn,2):=if_pos (by by_cases h1:l.length=8 <;> simp_all)

theorem ziA (v:Value) (l:List UInt8) (w:World) (hv:zbd w v l) (hf:¬ (l.length=10/\l.getD 0 0=113)) :
  Calls Tryz.prog 115 #[v] w fun e w'=>e=.returned (.tuple #[RQ (readRq l).1,I (readRq l).2])/\Ext w w':=by
 have hff:decide (l.length=10/\l.getD 0 0=113)=false:=decide_eq_false hf;have hF:=fun wx (h:Ext w wx)=>zf4 v l 113 10 (by decide) wx (hv.ext h);rw [hff] at hF;rw [ziV hf];clear hv hf hff;go_enter Tryz.func115,Tryz.ntmps115
 go_wp2_with fail
 refine Calls.same (hF _ ((Ext.refl w).alloc _)) ?_;go_wp2
 refine bodyPost_ret (by simp [results,Tryz.results115,go_sem]; rfl) rfl ?_;exact ⟨rfl,(Ext.refl w).alloc _⟩

theorem ziB (v:Value) (b1 b2 b3 b4 b5 b6 b7 b8 b9:UInt8) (w:World) (hv:zbd w v [113,b1,b2,b3,b4,b5,b6,b7,b8,b9]) :
  Calls Tryz.prog 115 #[v] w fun e w'=>e=.returned (.tuple #[RQ (readRq [113,b1,b2,b3,b4,b5,b6,b7,b8,b9]).1,I (readRq [113,b1,b2,b3,b4,b5,b6,b7,b8,b9]).2])/\Ext w w':=by
 have hF:=fun wx (h:Ext w wx)=>zf4 v _ 113 10 (by decide) wx (hv.ext h);have hneg:zbJ ⟨b1.toNat,b2.toNat,⟨b3.toNat,b4.toNat,b5.toNat,numB [b6,b7,b8,b9]⟩⟩=0->readRq [113,b1,b2,b3,b4,b5,b6,b7,b8,b9]=(⟨b1.toNat,b2.toNat,⟨b3.toNat,b4.toNat,b5.toNat,numB [b6,b7,b8,b9]⟩⟩,0):=fun h=>if_neg (show ¬ (zbJ ⟨b1.toNat,b2.toNat,⟨b3.toNat,b4.toNat,b5.toNat,numB [b6,b7,b8,b9]⟩⟩≠0) from fun k=>k h);have hpos:¬ zbJ ⟨b1.toNat,b2.toNat,⟨b3.toNat,b4.toNat,b5.toNat,numB [b6,b7,b8,b9]⟩⟩=0->readRq [113,b1,b2,b3,b4,b5,b6,b7,b8,b9]=(zeroRq,zbJ ⟨b1.toNat,b2.toNat,⟨b3.toNat,b4.toNat,b5.toNat,numB [b6,b7,b8,b9]⟩⟩):=fun h=>if_pos (show zbJ ⟨b1.toNat,b2.toNat,⟨b3.toNat,b4.toNat,b5.toNat,numB [b6,b7,b8,b9]⟩⟩≠0 from h);have hff:decide ([113,b1,b2,b3,b4,b5,b6,b7,b8,b9].length=10/\[113,b1,b2,b3,b4,b5,b6,b7,b8,b9].getD 0 0=113)=true:=rfl;rw [hff] at hF;clear hff;generalize readRq [113,b1,b2,b3,b4,b5,b6,b7,b8,b9]=RR at *;obtain ⟨R,E⟩:=RR;obtain ⟨b,off,cap,rfl,hc1,hc2,⟨-,c1,c2,c3,c4,c5⟩,h6⟩:=zoL hv;have hN:=fun wx (h:Ext w wx)=>zjm _ b6 b7 b8 b9 wx (h6.ext h);unfold maxLen at hc2;clear hv h6;generalize numB [b6,b7,b8,b9]=n at *;have HN:=zhd hneg;have HP:=zhd hpos;clear hneg hpos;have hk6:¬ cap=6:=by omega
 have hbw:=zfK;have e0:Ext w (w.alloc (.cells #[I 0,I 0,I 0,I 0,I 0,I 0] 36)):=(Ext.refl w).alloc _;have HB:=zhd (fun wx (h:Ext (w.alloc (.cells #[I 0,I 0,I 0,I 0,I 0,I 0] 36)) wx)=>zbo h);go_enter Tryz.func115,Tryz.ntmps115
 go_wp2_with fail
 refine Calls.same (hF _ e0) ?_;go_wp2_with fail
 clear hF;generalize hw0:w.alloc (.cells #[I 0,I 0,I 0,I 0,I 0,I 0] 36)=w0 at *;have HW0:=zhd hw0;clear hw0;replace c1:=e0.cell c1;replace c2:=e0.cell c2;replace c3:=e0.cell c3;replace c4:=e0.cell c4;replace c5:=e0.cell c5;refine zan 17 [none,none,none,none,none,none,none,none,none,none,none,none,none,none,some (.inl (I n)),none,some (.inr (zfC w0.heap.size 34 #[I 0,I 0,I 0,I 0]))] (by kernel_rfl) (by kernel_rfl) ?_ ?_
 ·exact ⟨trivial,trivial,trivial,trivial,trivial,trivial,trivial,trivial,trivial,trivial,trivial,trivial,trivial,trivial,trivial,trivial,zd9 _ _ _,trivial⟩
 iterate 2 (refine zap (fun K hK=>?_); go_simp; refine hK _ ?_; clear hK K)
 refine zay (U b3) rfl (fun w' hw'=>by have q0:=hw'.cell c3; go_simp) ?_;iterate 3 (refine zap (fun K hK=>?_); go_simp; refine hK _ ?_; clear hK K)
 refine zay (U b4) rfl (fun w' hw'=>by have q0:=hw'.cell c4; go_simp) ?_;iterate 3 (refine zap (fun K hK=>?_); go_simp; refine hK _ ?_; clear hK K)
 refine zay (U b5) rfl (fun w' hw'=>by have q0:=hw'.cell c5; go_simp) ?_;iterate 3 (refine zap (fun K hK=>?_); go_simp; refine hK _ ?_; clear hK K)
 refine zdp _ rfl (fun w' hw' _=>?_) ?_
 ·have hg:=zcb (hN w' (e0.trans hw'));unfold zaQ;go_simp
  exact ⟨Ext.refl _,hg⟩
 (refine zap (fun K hK=>?_); go_simp; refine hK _ ?_; clear hK K)
 refine zbb _ rfl (fun w' hw' hk=>?_) (fun v4=>?_)
 ·clear hk;unfold zaQ;go_simp
  exact ⟨(Ext.refl _).alloc _,zea hw'.size⟩
 refine zaP ?_;intro w1 e1 hX;obtain ⟨d,rfl,hd0,hd1⟩:zfC w0.heap.size 34 #[I 0,I 0,I 0,I 0] v4 w1:=hX 4;clear hX hN;obtain ⟨x0,x1,x2,x3,f0,f1,f2,f3⟩:=zb4 hd1;have e2:=zcj e1 hd0 (I b3.toNat) (I b4.toNat) (I b5.toNat) (I n);have hd2:=set4 hd1 (I b3.toNat) (I b4.toNat) (I b5.toNat) (I n);go_wp2_with fail
 clear x0 x1 x2 x3 f0 f1 f2 f3 c3 c4 c5 hd1 e1;generalize hw2:(((w1.setCell ⟨d,0,none⟩ (I b3.toNat)).setCell ⟨d,1,none⟩ (I b4.toNat)).setCell ⟨d,2,none⟩ (I b5.toNat)).setCell ⟨d,3,none⟩ (I n)=w2 at *;clear hw2;replace c1:=e2.cell c1;replace c2:=e2.cell c2;obtain ⟨x0,x1,x2,x3,-⟩:=zb4 hd2;clear hd2;refine zan 11 [none,none,none,none,none,none,none,none,none,none,some (.inr (zfC w0.heap.size 36 #[I 0,I 0,I 0,I 0,I 0,I 0]))] (by kernel_rfl) (by kernel_rfl) ?_ ?_
 ·exact ⟨trivial,trivial,trivial,trivial,trivial,trivial,trivial,trivial,trivial,trivial,zd9 _ _ _,trivial⟩
 iterate 2 (refine zap (fun K hK=>?_); go_simp; refine hK _ ?_; clear hK K)
 refine zay (U b1) rfl (fun w' hw'=>by have q0:=hw'.cell c1; go_simp) ?_;iterate 3 (refine zap (fun K hK=>?_); go_simp; refine hK _ ?_; clear hK K)
 refine zay (U b2) rfl (fun w' hw'=>by have q0:=hw'.cell c2; go_simp) ?_;(refine zap (fun K hK=>?_); go_simp; refine hK _ ?_; clear hK K)
 refine zay (.agg #[I b3.toNat,I b4.toNat,I b5.toNat,I n]) rfl (fun w' hw'=>by have q0:=hw'.cell x0; have q1:=hw'.cell x1; have q2:=hw'.cell x2; have q3:=hw'.cell x3; go_simp) ?_;(refine zap (fun K hK=>?_); go_simp; refine hK _ ?_; clear hK K)
 refine zbb _ rfl (fun w' hw' hk=>?_) (fun v5=>?_)
 ·clear hk;unfold zaQ;go_simp
  exact ⟨(Ext.refl _).alloc _,zea (Nat.le_trans e2.size hw'.size)⟩
 refine zaP ?_;intro w3 e3 hX;obtain ⟨g,rfl,hg0,hg1⟩:zfC w0.heap.size 36 #[I 0,I 0,I 0,I 0,I 0,I 0] v5 w3:=hX 5;clear hX x0 x1 x2 x3 c1 c2;obtain ⟨⟨x0,x1,x2,x3,x4,x5⟩,f0,f1,f2,f3,f4,f5⟩:=box6 hg1;have e4:=zfQ (e2.trans e3) hg0 (I b1.toNat) (I b2.toNat) (I b3.toNat) (I b4.toNat) (I b5.toNat) (I n);have hg2:=zpx hg1 (I b1.toNat) (I b2.toNat) (I b3.toNat) (I b4.toNat) (I b5.toNat) (I n);go_wp2_with fail
 clear x0 x1 x2 x3 x4 x5 f0 f1 f2 f3 f4 f5 hg1 e3;generalize hw4:(((((w3.setCell ⟨g,0,none⟩ (I b1.toNat)).setCell ⟨g,1,none⟩ (I b2.toNat)).setCell ⟨g,2,none⟩ (I b3.toNat)).setCell ⟨g,3,none⟩ (I b4.toNat)).setCell ⟨g,4,none⟩ (I b5.toNat)).setCell ⟨g,5,none⟩ (I n)=w4 at *;clear hw4 hbw;refine Calls.exts (ziu (b1.toNat:Int) b2.toNat b3.toNat b4.toNat b5.toNat n w4) (fun w5 e5=>?_);have rb:=HB.o w5 (e4.trans e5);obtain ⟨⟨z0,z1,z2,z3,z4,z5⟩,f0,f1,f2,f3,f4,f5⟩:=box6 rb;have m5:Ext w w5:=e0.trans (e4.trans e5);by_cases hz:zbJ ⟨b1.toNat,b2.toNat,⟨b3.toNat,b4.toNat,b5.toNat,n⟩⟩=0
 ·rw [hz];obtain ⟨⟨x0,x1,x2,x3,x4,x5⟩,-⟩:=box6 (zb2 hg2 e5);have HZ:=zhd hz;clear hz;go_wp2
  have rb2:=zpx rb (I b1.toNat) (I b2.toNat) (I b3.toNat) (I b4.toNat) (I b5.toNat) (I n);obtain ⟨⟨q0,q1,q2,q3,q4,q5⟩,-⟩:=box6 rb2;have m6:=zfQ m5 (Nat.le_refl w.heap.size) (I b1.toNat) (I b2.toNat) (I b3.toNat) (I b4.toNat) (I b5.toNat) (I n);clear x0 x1 x2 x3 x4 x5 z0 z1 z2 z3 z4 z5 f0 f1 f2 f3 f4 f5;refine bodyPost_ret (by simp [results,Tryz.results115,go_sem,q0,q1,q2,q3,q4,q5]; rfl) rfl ?_;obtain ⟨h1,h2⟩:=Prod.mk.inj (HN.o HZ.o);rw [h1,h2];exact ⟨rfl,m6⟩
 ·have hb:(zbJ ⟨b1.toNat,b2.toNat,⟨b3.toNat,b4.toNat,b5.toNat,n⟩⟩ != 0)=true:=by simpa using hz
  have HZ:=zhd hz;clear hz;go_wp2
  have rb2:=zpx rb (I 0) (I 0) (I 0) (I 0) (I 0) (I 0);obtain ⟨⟨q0,q1,q2,q3,q4,q5⟩,-⟩:=box6 rb2;have m6:=zfQ m5 (Nat.le_refl w.heap.size) (I 0) (I 0) (I 0) (I 0) (I 0) (I 0);clear z0 z1 z2 z3 z4 z5 f0 f1 f2 f3 f4 f5;refine bodyPost_ret (by simp [results,Tryz.results115,go_sem,q0,q1,q2,q3,q4,q5]; rfl) rfl ?_;obtain ⟨h1,h2⟩:=Prod.mk.inj (HP.o HZ.o);rw [h1,h2];exact ⟨rfl,m6⟩

theorem zql {l:List UInt8} (h:l.length=10/\l.getD 0 0=113):∃ b1 b2 b3 b4 b5 b6 b7 b8 b9,l=[113,b1,b2,b3,b4,b5,b6,b7,b8,b9]:=by
 obtain ⟨h1,h2⟩:=h
 match l,h1,h2 with
 | [b0,b1,b2,b3,b4,b5,b6,b7,b8,b9],_,h0 =>
  have h0:b0=113:=h0
  subst h0
  exact ⟨_,_,_,_,_,_,_,_,_,rfl⟩
theorem znc {l:List UInt8} (h:l.length=8/\l.getD 0 0=97):∃ b1 b2 b3 b4 b5 b6 b7,l=[97,b1,b2,b3,b4,b5,b6,b7]:=by
 obtain ⟨h1,h2⟩:=h
 match l,h1,h2 with
 | [b0,b1,b2,b3,b4,b5,b6,b7],_,h0 =>
  have h0:b0=97:=h0
  subst h0
  exact ⟨_,_,_,_,_,_,_,rfl⟩

theorem ziZ (v:Value) (l:List UInt8) (w:World) (hv:zbd w v l) :
  Calls Tryz.prog 115 #[v] w fun e w'=>e=.returned (.tuple #[RQ (readRq l).1,I (readRq l).2])/\Ext w w':=by
 by_cases hf:l.length=10/\l.getD 0 0=113
 ·obtain ⟨b1,b2,b3,b4,b5,b6,b7,b8,b9,rfl⟩:=zql hf
  exact ziB v b1 b2 b3 b4 b5 b6 b7 b8 b9 w hv
 ·exact ziA v l w hv hf

end Go.Proofs.YtdmipnnfoolelafGreat

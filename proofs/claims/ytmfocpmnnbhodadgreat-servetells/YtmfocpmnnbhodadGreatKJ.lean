/- Texts of the proof, merged: N5 R1 R2. -/
import Derived.Test.YtmfocpmnnbhodadGreatKI
import Derived.Test.YtmfocpmnnbhodadGreatKB
import Derived.Test.YtmfocpmnnbhodadGreatKE

namespace Go.Proofs.YtmfocpmnnbhodadGreat
open Go.RowKit Go.Mk
set_option maxRecDepth 100000

theorem Tryz.infoRp : (Tryz.prog.info? 39).map (fun i => (i.zero, i.size, i.bytes)) = some (some (.agg #[.int .i64 0, .int .i64 0]), 2, 16) := by kernel_rfl

set_option maxHeartbeats 4000000 in
theorem refClientGo_hear (cl : List Cl) (at_ : Int) (sent : Bool) (gen : Int) (b : List UInt8) (l : List (List UInt8)) (gl : List Rp) (calls box got : Value) (me gen2 : Int) (up : Bool) (w : World) (A : Nat → Prop)
  (hc : Rd A (fun w => RowOf 4 elCl w calls cl) w) (hb : Rd A (fun w => RowOf 1 elBs w box (b :: l)) w) (hg : Rd A (fun w => RowOf 2 elRp w got gl) w) (h0 : 0 ≤ at_) (h1 : at_ ≤ 1000000) (hgl : gl.length ≤ 1000) :
  Keeps Tryz.prog 45 #[.agg #[calls, I at_, .bool sent, I gen, box, got], I me, I gen2, .bool up] w A (fun r w' => Tup3 elCn (goCn ⟨cl, at_, sent, gen, (b :: l), gl⟩ me gen2 up).1 (goCn ⟨cl, at_, sent, gen, (b :: l), gl⟩ me gen2 up).2.1 (goCn ⟨cl, at_, sent, gen, (b :: l), gl⟩ me gen2 up).2.2 r w') := by
 unfold Keeps
 obtain ⟨ca, cc, rfl⟩ := rowOf_slice hc.out
 obtain ⟨ga, gc, rfl⟩ := rowOf_slice hg.out
 have EW := Lib.hid (Ext.refl w)
 obtain ⟨B, hB⟩ := away A w.heap.size 2
 have HK := Lib.hid hB
 clear hB
 have HC := Lib.hid (hc.widen HK.out.1)
 have HG := Lib.hid (hg.widen HK.out.1)
 obtain ⟨xb, xo, xc, bv, rfl, hx1, hx2, hf, hrest⟩ := box_first (hb.widen HK.out.1)
 have HF := Lib.hid hf
 have HB := Lib.hid hrest
 have HGL := Lib.hid hgl
 unfold maxLen at hx2
 clear hc hb hg hf hrest hgl
 obtain ⟨⟨ac, at2, ⟨re, rn⟩⟩, ae, hRA⟩ : ∃ x y, readAn b = (x, y) := ⟨_, _, rfl⟩
 have HRA := Lib.hid hRA
 have hX0 : goCn ⟨cl, at_, sent, gen, (b :: l), gl⟩ me gen2 up = if ae = 0 ∧ ac = me ∧ at2 = at_ ∧ sent = true then (⟨cl, at_ + 1, false, gen, l, gl ++ [⟨re, rn⟩]⟩, [], 0) else (⟨cl, at_, sent, gen, l, gl⟩, [], 0) := by
  show (if (readAn b).2 = 0 ∧ (readAn b).1.client = me ∧ (readAn b).1.token = at_ ∧ sent = true then _ else _) = _
  rw [hRA]
 clear hRA
 by_cases hcap : xc = 1
 case pos =>
  obtain rfl : l = [] := List.eq_nil_of_length_eq_zero (by omega)
  subst hcap
  simp only [List.length_nil, Nat.zero_add] at *
  replace HB := Lib.hid (Rd.all (A := B) (w := w) fun w => rowOf_empty (size := 1) (R := elBs) w xb xo 0 (by decide))
  by_cases a1 : ae = 0
  case neg =>
   rw [hX0, if_neg (fun h => a1 h.1)]
   have hb_a1 : (ae == 0) = false := by simpa using a1
   clear hX0
   go_enter Tryz.func45, Tryz.ntmps45
   go_wp2_with ((with_reducible refine zst (L := [44, 41, 31, 100]) ?_ ?_); exact rfl)
   unfold Hid
   refine wpList_boxB rfl 100 (.tmp 0) rfl #[.slice ca cl.length cc, I at_, .bool sent, I gen, .slice (some ⟨xb, xo, none⟩) 1 1, .slice ga gl.length gc] rfl (fun b0 w1_ M1 => ?_)
   have B_b0 := zmb M1
   replace HC := zme M1 HC
   replace HB := zme M1 HB
   replace HG := zme M1 HG
   replace HF := zme M1 HF
   replace EW := zet EW M1
   go_wp2_with ((with_reducible refine zst (L := [44, 41, 31, 100]) ?_ ?_); exact rfl)
   unfold Hid
   refine wpList_allocB rfl 100 #[.slice none 0 0, I 0, .bool false, I 0, .slice none 0 0, .slice none 0 0] (by kernel_rfl) (fun b1 w2_ M2 => ?_)
   have D_b0_b1 := zld B_b0 M2
   replace B_b0 := zmo M2 B_b0
   have B_b1 := zmb M2
   replace HC := zme M2 HC
   replace HB := zme M2 HB
   replace HG := zme M2 HG
   replace HF := zme M2 HF
   replace EW := zet EW M2
   have A_b0 : Hid (b0 = w.heap.size + 0) := by unfold Hid; have q0 := M1.out.at_; have r0 := M1.out.size; omega
   have N_b0 := znb HK A_b0 (by decide)
   have O_b0 := zob A_b0
   have A_b1 : Hid (b1 = w.heap.size + 1) := by unfold Hid; have q0 := M1.out.at_; have r0 := M1.out.size; have q1 := M2.out.at_; have r1 := M2.out.size; omega
   have N_b1 := znb HK A_b1 (by decide)
   have O_b1 := zob A_b1
   have c4 := cell_of (i := 4) B_b0.out rfl
   have cx := HF.out.out.1
   go_wp2_with fail
   clear c4 cx
   have hl := refReadAnswer_any bv b w2_ HF.out.out.2
   rw [HRA.out] at hl
   refine Calls.exts hl (fun wa ea => ?_)
   clear hl
   replace B_b0 := zbx B_b0 ea
   replace B_b1 := zbx B_b1 ea
   replace HC := zrx HC ea
   replace HB := zrx HB ea
   replace HG := zrx HG ea
   replace HF := zrx HF ea
   replace EW := Lib.hid (EW.out.trans ea)
   go_wp2_with ((with_reducible refine zst (L := [44, 41, 31, 100]) ?_ ?_); exact rfl)
   unfold Hid
   refine wpList_allocB rfl 59 #[I 0, I 0, I 0, I 0] (by kernel_rfl) (fun b2 w3_ M3 => ?_)
   have D_b0_b2 := zld B_b0 M3
   have D_b1_b2 := zld B_b1 M3
   obtain ⟨B1, HB1⟩ : ∃ X : Nat → Prop, Hid (∀ k, X k ↔ (B k ∧ k ≠ b2)) := ⟨_, fun _ => Iff.rfl⟩
   replace HC := zmd HB1 M3 HC
   replace HB := zmd HB1 M3 HB
   replace HG := zmd HB1 M3 HG
   replace HF := zmd HB1 M3 HF
   replace N_b0 := znw HB1 N_b0
   replace N_b1 := znw HB1 N_b1
   have N_b2 : Hid (¬ B1 b2) := fun h => ((HB1.out _).1 h).2 rfl
   have I_B1 : Hid (∀ k, B1 k → B k) := fun k h => ((HB1.out k).1 h).1
   have O_b2 : Hid (w.heap.size ≤ b2) := by unfold Hid; have q2 := M3.out.at_; have q3 := EW.out.size; omega
   replace B_b0 := zmo M3 B_b0
   replace B_b1 := zmo M3 B_b1
   have B_b2 := zmb M3
   replace HC := zme M3 HC
   replace HB := zme M3 HB
   replace HG := zme M3 HG
   replace HF := zme M3 HF
   replace EW := zet EW M3
   go_wp2_with ((with_reducible refine zst (L := [44, 41, 31, 100]) ?_ ?_); exact rfl)
   unfold Hid
   refine wpList_storeW rfl 59 (.tmp 11) (.tmp 23) rfl b2 rfl [I ac, I at2, I re, I rn] (rfl) B_b2 rfl (by kernel_rfl) rfl (fun w4_ M4 => ?_)
   replace B_b0 := zwl M4 B_b0 D_b0_b2
   replace B_b1 := zwl M4 B_b1 D_b1_b2
   replace B_b2 := zwb M4
   replace HC := zwr M4 HC N_b2
   replace HB := zwr M4 HB N_b2
   replace HG := zwr M4 HG N_b2
   replace HF := zwr M4 HF N_b2
   replace EW := zwe M4 EW O_b2
   have c4 := cell_of (i := 4) B_b0.out rfl
   go_wp2_with ((with_reducible refine zst (L := [44, 41, 31, 100]) ?_ ?_); exact rfl)
   unfold Hid
   clear c4
   refine wpList_storeP rfl 32 (.tmp 28) (.tmp 27) rfl b0 4 rfl [.slice (some ⟨xb, xo, none⟩) 0 0] (rfl) B_b0 rfl (by kernel_rfl) rfl [.slice ca cl.length cc, I at_, .bool sent, I gen, .slice (some ⟨xb, xo, none⟩) 0 0, .slice ga gl.length gc] rfl (fun w5_ M5 => ?_)
   replace B_b0 := zwb M5
   replace B_b1 := zwg M5 B_b1 D_b0_b1
   replace B_b2 := zwg M5 B_b2 D_b0_b2
   replace HC := zwr M5 HC N_b0
   replace HB := zwr M5 HB N_b0
   replace HG := zwr M5 HG N_b0
   replace HF := zwr M5 HF N_b0
   replace EW := zwe M5 EW O_b0
   have d0 := cell_of (i := 0) B_b2.out rfl
   have d1 := cell_of (i := 1) B_b2.out rfl
   have c1 := cell_of (i := 1) B_b0.out rfl
   have c2 := cell_of (i := 2) B_b0.out rfl
   go_wp2_with ((with_reducible refine zst (L := [44, 41, 31, 100]) ?_ ?_); exact rfl)
   unfold Hid
   clear d0 d1 c1 c2
   refine wpList_loadW rfl 100 (.tmp 4) rfl b0 rfl B_b0 Tryz.underlying100 (by kernel_rfl) (fun v62 H_v62 => ?_)
   go_wp2_with ((with_reducible refine zst (L := [44, 41, 31, 100]) ?_ ?_); exact rfl)
   unfold Hid
   refine wpList_storeW rfl 100 (.tmp 8) (.tmp 62) rfl b1 rfl _ (zcv H_v62) B_b1 rfl (by kernel_rfl) rfl (fun w6_ M6 => ?_)
   replace B_b0 := zwl M6 B_b0 D_b0_b1
   replace B_b1 := zwb M6
   replace B_b2 := zwg M6 B_b2 D_b1_b2
   replace HC := zwr M6 HC N_b1
   replace HB := zwr M6 HB N_b1
   replace HG := zwr M6 HG N_b1
   replace HF := zwr M6 HF N_b1
   replace EW := zwe M6 EW O_b1
   go_wp2
   have z0 := run_box (P := Tryz.prog) 100 B_b1.out Tryz.underlying100 (by kernel_rfl)
   refine bodyPost_ret (by simp [results, Tryz.results45, asAddr, z0]; rfl) rfl ?_
   exact ⟨_, rfl, EW.out, Rd.widen (A := B1) (tup3_rd (cn_rd (c := ⟨cl, at_, sent, gen, [], gl⟩) HC.out HB.out HG.out) (Rd.all fun w => bytes_nil w)) (fun k _ h => HK.out.2.2.2 k (I_B1.out k h))⟩
  subst a1
  by_cases a2 : ac = me
  case neg =>
   rw [hX0, if_neg (fun h => a2 h.2.1)]
   have hb_a2 : (ac == me) = false := by simpa using a2
   clear hX0
   go_enter Tryz.func45, Tryz.ntmps45
   go_wp2_with ((with_reducible refine zst (L := [44, 41, 31, 100]) ?_ ?_); exact rfl)
   unfold Hid
   refine wpList_boxB rfl 100 (.tmp 0) rfl #[.slice ca cl.length cc, I at_, .bool sent, I gen, .slice (some ⟨xb, xo, none⟩) 1 1, .slice ga gl.length gc] rfl (fun b0 w1_ M1 => ?_)
   have B_b0 := zmb M1
   replace HC := zme M1 HC
   replace HB := zme M1 HB
   replace HG := zme M1 HG
   replace HF := zme M1 HF
   replace EW := zet EW M1
   go_wp2_with ((with_reducible refine zst (L := [44, 41, 31, 100]) ?_ ?_); exact rfl)
   unfold Hid
   refine wpList_allocB rfl 100 #[.slice none 0 0, I 0, .bool false, I 0, .slice none 0 0, .slice none 0 0] (by kernel_rfl) (fun b1 w2_ M2 => ?_)
   have D_b0_b1 := zld B_b0 M2
   replace B_b0 := zmo M2 B_b0
   have B_b1 := zmb M2
   replace HC := zme M2 HC
   replace HB := zme M2 HB
   replace HG := zme M2 HG
   replace HF := zme M2 HF
   replace EW := zet EW M2
   have A_b0 : Hid (b0 = w.heap.size + 0) := by unfold Hid; have q0 := M1.out.at_; have r0 := M1.out.size; omega
   have N_b0 := znb HK A_b0 (by decide)
   have O_b0 := zob A_b0
   have A_b1 : Hid (b1 = w.heap.size + 1) := by unfold Hid; have q0 := M1.out.at_; have r0 := M1.out.size; have q1 := M2.out.at_; have r1 := M2.out.size; omega
   have N_b1 := znb HK A_b1 (by decide)
   have O_b1 := zob A_b1
   have c4 := cell_of (i := 4) B_b0.out rfl
   have cx := HF.out.out.1
   go_wp2_with fail
   clear c4 cx
   have hl := refReadAnswer_any bv b w2_ HF.out.out.2
   rw [HRA.out] at hl
   refine Calls.exts hl (fun wa ea => ?_)
   clear hl
   replace B_b0 := zbx B_b0 ea
   replace B_b1 := zbx B_b1 ea
   replace HC := zrx HC ea
   replace HB := zrx HB ea
   replace HG := zrx HG ea
   replace HF := zrx HF ea
   replace EW := Lib.hid (EW.out.trans ea)
   go_wp2_with ((with_reducible refine zst (L := [44, 41, 31, 100]) ?_ ?_); exact rfl)
   unfold Hid
   refine wpList_allocB rfl 59 #[I 0, I 0, I 0, I 0] (by kernel_rfl) (fun b2 w3_ M3 => ?_)
   have D_b0_b2 := zld B_b0 M3
   have D_b1_b2 := zld B_b1 M3
   obtain ⟨B1, HB1⟩ : ∃ X : Nat → Prop, Hid (∀ k, X k ↔ (B k ∧ k ≠ b2)) := ⟨_, fun _ => Iff.rfl⟩
   replace HC := zmd HB1 M3 HC
   replace HB := zmd HB1 M3 HB
   replace HG := zmd HB1 M3 HG
   replace HF := zmd HB1 M3 HF
   replace N_b0 := znw HB1 N_b0
   replace N_b1 := znw HB1 N_b1
   have N_b2 : Hid (¬ B1 b2) := fun h => ((HB1.out _).1 h).2 rfl
   have I_B1 : Hid (∀ k, B1 k → B k) := fun k h => ((HB1.out k).1 h).1
   have O_b2 : Hid (w.heap.size ≤ b2) := by unfold Hid; have q2 := M3.out.at_; have q3 := EW.out.size; omega
   replace B_b0 := zmo M3 B_b0
   replace B_b1 := zmo M3 B_b1
   have B_b2 := zmb M3
   replace HC := zme M3 HC
   replace HB := zme M3 HB
   replace HG := zme M3 HG
   replace HF := zme M3 HF
   replace EW := zet EW M3
   go_wp2_with ((with_reducible refine zst (L := [44, 41, 31, 100]) ?_ ?_); exact rfl)
   unfold Hid
   refine wpList_storeW rfl 59 (.tmp 11) (.tmp 23) rfl b2 rfl [I ac, I at2, I re, I rn] (rfl) B_b2 rfl (by kernel_rfl) rfl (fun w4_ M4 => ?_)
   replace B_b0 := zwl M4 B_b0 D_b0_b2
   replace B_b1 := zwl M4 B_b1 D_b1_b2
   replace B_b2 := zwb M4
   replace HC := zwr M4 HC N_b2
   replace HB := zwr M4 HB N_b2
   replace HG := zwr M4 HG N_b2
   replace HF := zwr M4 HF N_b2
   replace EW := zwe M4 EW O_b2
   have c4 := cell_of (i := 4) B_b0.out rfl
   go_wp2_with ((with_reducible refine zst (L := [44, 41, 31, 100]) ?_ ?_); exact rfl)
   unfold Hid
   clear c4
   refine wpList_storeP rfl 32 (.tmp 28) (.tmp 27) rfl b0 4 rfl [.slice (some ⟨xb, xo, none⟩) 0 0] (rfl) B_b0 rfl (by kernel_rfl) rfl [.slice ca cl.length cc, I at_, .bool sent, I gen, .slice (some ⟨xb, xo, none⟩) 0 0, .slice ga gl.length gc] rfl (fun w5_ M5 => ?_)
   replace B_b0 := zwb M5
   replace B_b1 := zwg M5 B_b1 D_b0_b1
   replace B_b2 := zwg M5 B_b2 D_b0_b2
   replace HC := zwr M5 HC N_b0
   replace HB := zwr M5 HB N_b0
   replace HG := zwr M5 HG N_b0
   replace HF := zwr M5 HF N_b0
   replace EW := zwe M5 EW O_b0
   have d0 := cell_of (i := 0) B_b2.out rfl
   have d1 := cell_of (i := 1) B_b2.out rfl
   have c1 := cell_of (i := 1) B_b0.out rfl
   have c2 := cell_of (i := 2) B_b0.out rfl
   go_wp2_with ((with_reducible refine zst (L := [44, 41, 31, 100]) ?_ ?_); exact rfl)
   unfold Hid
   clear d0 d1 c1 c2
   refine wpList_loadW rfl 100 (.tmp 4) rfl b0 rfl B_b0 Tryz.underlying100 (by kernel_rfl) (fun v62 H_v62 => ?_)
   go_wp2_with ((with_reducible refine zst (L := [44, 41, 31, 100]) ?_ ?_); exact rfl)
   unfold Hid
   refine wpList_storeW rfl 100 (.tmp 8) (.tmp 62) rfl b1 rfl _ (zcv H_v62) B_b1 rfl (by kernel_rfl) rfl (fun w6_ M6 => ?_)
   replace B_b0 := zwl M6 B_b0 D_b0_b1
   replace B_b1 := zwb M6
   replace B_b2 := zwg M6 B_b2 D_b1_b2
   replace HC := zwr M6 HC N_b1
   replace HB := zwr M6 HB N_b1
   replace HG := zwr M6 HG N_b1
   replace HF := zwr M6 HF N_b1
   replace EW := zwe M6 EW O_b1
   go_wp2
   have z0 := run_box (P := Tryz.prog) 100 B_b1.out Tryz.underlying100 (by kernel_rfl)
   refine bodyPost_ret (by simp [results, Tryz.results45, asAddr, z0]; rfl) rfl ?_
   exact ⟨_, rfl, EW.out, Rd.widen (A := B1) (tup3_rd (cn_rd (c := ⟨cl, at_, sent, gen, [], gl⟩) HC.out HB.out HG.out) (Rd.all fun w => bytes_nil w)) (fun k _ h => HK.out.2.2.2 k (I_B1.out k h))⟩
  subst a2
  by_cases a3 : at2 = at_
  case neg =>
   rw [hX0, if_neg (fun h => a3 h.2.2.1)]
   have hb_a3 : (at2 == at_) = false := by simpa using a3
   clear hX0
   go_enter Tryz.func45, Tryz.ntmps45
   go_wp2_with ((with_reducible refine zst (L := [44, 41, 31, 100]) ?_ ?_); exact rfl)
   unfold Hid
   refine wpList_boxB rfl 100 (.tmp 0) rfl #[.slice ca cl.length cc, I at_, .bool sent, I gen, .slice (some ⟨xb, xo, none⟩) 1 1, .slice ga gl.length gc] rfl (fun b0 w1_ M1 => ?_)
   have B_b0 := zmb M1
   replace HC := zme M1 HC
   replace HB := zme M1 HB
   replace HG := zme M1 HG
   replace HF := zme M1 HF
   replace EW := zet EW M1
   go_wp2_with ((with_reducible refine zst (L := [44, 41, 31, 100]) ?_ ?_); exact rfl)
   unfold Hid
   refine wpList_allocB rfl 100 #[.slice none 0 0, I 0, .bool false, I 0, .slice none 0 0, .slice none 0 0] (by kernel_rfl) (fun b1 w2_ M2 => ?_)
   have D_b0_b1 := zld B_b0 M2
   replace B_b0 := zmo M2 B_b0
   have B_b1 := zmb M2
   replace HC := zme M2 HC
   replace HB := zme M2 HB
   replace HG := zme M2 HG
   replace HF := zme M2 HF
   replace EW := zet EW M2
   have A_b0 : Hid (b0 = w.heap.size + 0) := by unfold Hid; have q0 := M1.out.at_; have r0 := M1.out.size; omega
   have N_b0 := znb HK A_b0 (by decide)
   have O_b0 := zob A_b0
   have A_b1 : Hid (b1 = w.heap.size + 1) := by unfold Hid; have q0 := M1.out.at_; have r0 := M1.out.size; have q1 := M2.out.at_; have r1 := M2.out.size; omega
   have N_b1 := znb HK A_b1 (by decide)
   have O_b1 := zob A_b1
   have c4 := cell_of (i := 4) B_b0.out rfl
   have cx := HF.out.out.1
   go_wp2_with fail
   clear c4 cx
   have hl := refReadAnswer_any bv b w2_ HF.out.out.2
   rw [HRA.out] at hl
   refine Calls.exts hl (fun wa ea => ?_)
   clear hl
   replace B_b0 := zbx B_b0 ea
   replace B_b1 := zbx B_b1 ea
   replace HC := zrx HC ea
   replace HB := zrx HB ea
   replace HG := zrx HG ea
   replace HF := zrx HF ea
   replace EW := Lib.hid (EW.out.trans ea)
   go_wp2_with ((with_reducible refine zst (L := [44, 41, 31, 100]) ?_ ?_); exact rfl)
   unfold Hid
   refine wpList_allocB rfl 59 #[I 0, I 0, I 0, I 0] (by kernel_rfl) (fun b2 w3_ M3 => ?_)
   have D_b0_b2 := zld B_b0 M3
   have D_b1_b2 := zld B_b1 M3
   obtain ⟨B1, HB1⟩ : ∃ X : Nat → Prop, Hid (∀ k, X k ↔ (B k ∧ k ≠ b2)) := ⟨_, fun _ => Iff.rfl⟩
   replace HC := zmd HB1 M3 HC
   replace HB := zmd HB1 M3 HB
   replace HG := zmd HB1 M3 HG
   replace HF := zmd HB1 M3 HF
   replace N_b0 := znw HB1 N_b0
   replace N_b1 := znw HB1 N_b1
   have N_b2 : Hid (¬ B1 b2) := fun h => ((HB1.out _).1 h).2 rfl
   have I_B1 : Hid (∀ k, B1 k → B k) := fun k h => ((HB1.out k).1 h).1
   have O_b2 : Hid (w.heap.size ≤ b2) := by unfold Hid; have q2 := M3.out.at_; have q3 := EW.out.size; omega
   replace B_b0 := zmo M3 B_b0
   replace B_b1 := zmo M3 B_b1
   have B_b2 := zmb M3
   replace HC := zme M3 HC
   replace HB := zme M3 HB
   replace HG := zme M3 HG
   replace HF := zme M3 HF
   replace EW := zet EW M3
   go_wp2_with ((with_reducible refine zst (L := [44, 41, 31, 100]) ?_ ?_); exact rfl)
   unfold Hid
   refine wpList_storeW rfl 59 (.tmp 11) (.tmp 23) rfl b2 rfl [I ac, I at2, I re, I rn] (rfl) B_b2 rfl (by kernel_rfl) rfl (fun w4_ M4 => ?_)
   replace B_b0 := zwl M4 B_b0 D_b0_b2
   replace B_b1 := zwl M4 B_b1 D_b1_b2
   replace B_b2 := zwb M4
   replace HC := zwr M4 HC N_b2
   replace HB := zwr M4 HB N_b2
   replace HG := zwr M4 HG N_b2
   replace HF := zwr M4 HF N_b2
   replace EW := zwe M4 EW O_b2
   have c4 := cell_of (i := 4) B_b0.out rfl
   go_wp2_with ((with_reducible refine zst (L := [44, 41, 31, 100]) ?_ ?_); exact rfl)
   unfold Hid
   clear c4
   refine wpList_storeP rfl 32 (.tmp 28) (.tmp 27) rfl b0 4 rfl [.slice (some ⟨xb, xo, none⟩) 0 0] (rfl) B_b0 rfl (by kernel_rfl) rfl [.slice ca cl.length cc, I at_, .bool sent, I gen, .slice (some ⟨xb, xo, none⟩) 0 0, .slice ga gl.length gc] rfl (fun w5_ M5 => ?_)
   replace B_b0 := zwb M5
   replace B_b1 := zwg M5 B_b1 D_b0_b1
   replace B_b2 := zwg M5 B_b2 D_b0_b2
   replace HC := zwr M5 HC N_b0
   replace HB := zwr M5 HB N_b0
   replace HG := zwr M5 HG N_b0
   replace HF := zwr M5 HF N_b0
   replace EW := zwe M5 EW O_b0
   have d0 := cell_of (i := 0) B_b2.out rfl
   have d1 := cell_of (i := 1) B_b2.out rfl
   have c1 := cell_of (i := 1) B_b0.out rfl
   have c2 := cell_of (i := 2) B_b0.out rfl
   go_wp2_with ((with_reducible refine zst (L := [44, 41, 31, 100]) ?_ ?_); exact rfl)
   unfold Hid
   clear d0 d1 c1 c2
   refine wpList_loadW rfl 100 (.tmp 4) rfl b0 rfl B_b0 Tryz.underlying100 (by kernel_rfl) (fun v62 H_v62 => ?_)
   go_wp2_with ((with_reducible refine zst (L := [44, 41, 31, 100]) ?_ ?_); exact rfl)
   unfold Hid
   refine wpList_storeW rfl 100 (.tmp 8) (.tmp 62) rfl b1 rfl _ (zcv H_v62) B_b1 rfl (by kernel_rfl) rfl (fun w6_ M6 => ?_)
   replace B_b0 := zwl M6 B_b0 D_b0_b1
   replace B_b1 := zwb M6
   replace B_b2 := zwg M6 B_b2 D_b1_b2
   replace HC := zwr M6 HC N_b1
   replace HB := zwr M6 HB N_b1
   replace HG := zwr M6 HG N_b1
   replace HF := zwr M6 HF N_b1
   replace EW := zwe M6 EW O_b1
   go_wp2
   have z0 := run_box (P := Tryz.prog) 100 B_b1.out Tryz.underlying100 (by kernel_rfl)
   refine bodyPost_ret (by simp [results, Tryz.results45, asAddr, z0]; rfl) rfl ?_
   exact ⟨_, rfl, EW.out, Rd.widen (A := B1) (tup3_rd (cn_rd (c := ⟨cl, at_, sent, gen, [], gl⟩) HC.out HB.out HG.out) (Rd.all fun w => bytes_nil w)) (fun k _ h => HK.out.2.2.2 k (I_B1.out k h))⟩
  replace a3 := a3.symm
  subst a3
  cases sent
  case false =>
   rw [hX0, if_neg (fun h => by cases h.2.2.2)]
   clear hX0
   go_enter Tryz.func45, Tryz.ntmps45
   go_wp2_with ((with_reducible refine zst (L := [44, 41, 31, 100]) ?_ ?_); exact rfl)
   unfold Hid
   refine wpList_boxB rfl 100 (.tmp 0) rfl #[.slice ca cl.length cc, I at_, .bool false, I gen, .slice (some ⟨xb, xo, none⟩) 1 1, .slice ga gl.length gc] rfl (fun b0 w1_ M1 => ?_)
   have B_b0 := zmb M1
   replace HC := zme M1 HC
   replace HB := zme M1 HB
   replace HG := zme M1 HG
   replace HF := zme M1 HF
   replace EW := zet EW M1
   go_wp2_with ((with_reducible refine zst (L := [44, 41, 31, 100]) ?_ ?_); exact rfl)
   unfold Hid
   refine wpList_allocB rfl 100 #[.slice none 0 0, I 0, .bool false, I 0, .slice none 0 0, .slice none 0 0] (by kernel_rfl) (fun b1 w2_ M2 => ?_)
   have D_b0_b1 := zld B_b0 M2
   replace B_b0 := zmo M2 B_b0
   have B_b1 := zmb M2
   replace HC := zme M2 HC
   replace HB := zme M2 HB
   replace HG := zme M2 HG
   replace HF := zme M2 HF
   replace EW := zet EW M2
   have A_b0 : Hid (b0 = w.heap.size + 0) := by unfold Hid; have q0 := M1.out.at_; have r0 := M1.out.size; omega
   have N_b0 := znb HK A_b0 (by decide)
   have O_b0 := zob A_b0
   have A_b1 : Hid (b1 = w.heap.size + 1) := by unfold Hid; have q0 := M1.out.at_; have r0 := M1.out.size; have q1 := M2.out.at_; have r1 := M2.out.size; omega
   have N_b1 := znb HK A_b1 (by decide)
   have O_b1 := zob A_b1
   have c4 := cell_of (i := 4) B_b0.out rfl
   have cx := HF.out.out.1
   go_wp2_with fail
   clear c4 cx
   have hl := refReadAnswer_any bv b w2_ HF.out.out.2
   rw [HRA.out] at hl
   refine Calls.exts hl (fun wa ea => ?_)
   clear hl
   replace B_b0 := zbx B_b0 ea
   replace B_b1 := zbx B_b1 ea
   replace HC := zrx HC ea
   replace HB := zrx HB ea
   replace HG := zrx HG ea
   replace HF := zrx HF ea
   replace EW := Lib.hid (EW.out.trans ea)
   go_wp2_with ((with_reducible refine zst (L := [44, 41, 31, 100]) ?_ ?_); exact rfl)
   unfold Hid
   refine wpList_allocB rfl 59 #[I 0, I 0, I 0, I 0] (by kernel_rfl) (fun b2 w3_ M3 => ?_)
   have D_b0_b2 := zld B_b0 M3
   have D_b1_b2 := zld B_b1 M3
   obtain ⟨B1, HB1⟩ : ∃ X : Nat → Prop, Hid (∀ k, X k ↔ (B k ∧ k ≠ b2)) := ⟨_, fun _ => Iff.rfl⟩
   replace HC := zmd HB1 M3 HC
   replace HB := zmd HB1 M3 HB
   replace HG := zmd HB1 M3 HG
   replace HF := zmd HB1 M3 HF
   replace N_b0 := znw HB1 N_b0
   replace N_b1 := znw HB1 N_b1
   have N_b2 : Hid (¬ B1 b2) := fun h => ((HB1.out _).1 h).2 rfl
   have I_B1 : Hid (∀ k, B1 k → B k) := fun k h => ((HB1.out k).1 h).1
   have O_b2 : Hid (w.heap.size ≤ b2) := by unfold Hid; have q2 := M3.out.at_; have q3 := EW.out.size; omega
   replace B_b0 := zmo M3 B_b0
   replace B_b1 := zmo M3 B_b1
   have B_b2 := zmb M3
   replace HC := zme M3 HC
   replace HB := zme M3 HB
   replace HG := zme M3 HG
   replace HF := zme M3 HF
   replace EW := zet EW M3
   go_wp2_with ((with_reducible refine zst (L := [44, 41, 31, 100]) ?_ ?_); exact rfl)
   unfold Hid
   refine wpList_storeW rfl 59 (.tmp 11) (.tmp 23) rfl b2 rfl [I ac, I at_, I re, I rn] (rfl) B_b2 rfl (by kernel_rfl) rfl (fun w4_ M4 => ?_)
   replace B_b0 := zwl M4 B_b0 D_b0_b2
   replace B_b1 := zwl M4 B_b1 D_b1_b2
   replace B_b2 := zwb M4
   replace HC := zwr M4 HC N_b2
   replace HB := zwr M4 HB N_b2
   replace HG := zwr M4 HG N_b2
   replace HF := zwr M4 HF N_b2
   replace EW := zwe M4 EW O_b2
   have c4 := cell_of (i := 4) B_b0.out rfl
   go_wp2_with ((with_reducible refine zst (L := [44, 41, 31, 100]) ?_ ?_); exact rfl)
   unfold Hid
   clear c4
   refine wpList_storeP rfl 32 (.tmp 28) (.tmp 27) rfl b0 4 rfl [.slice (some ⟨xb, xo, none⟩) 0 0] (rfl) B_b0 rfl (by kernel_rfl) rfl [.slice ca cl.length cc, I at_, .bool false, I gen, .slice (some ⟨xb, xo, none⟩) 0 0, .slice ga gl.length gc] rfl (fun w5_ M5 => ?_)
   replace B_b0 := zwb M5
   replace B_b1 := zwg M5 B_b1 D_b0_b1
   replace B_b2 := zwg M5 B_b2 D_b0_b2
   replace HC := zwr M5 HC N_b0
   replace HB := zwr M5 HB N_b0
   replace HG := zwr M5 HG N_b0
   replace HF := zwr M5 HF N_b0
   replace EW := zwe M5 EW O_b0
   have d0 := cell_of (i := 0) B_b2.out rfl
   have d1 := cell_of (i := 1) B_b2.out rfl
   have c1 := cell_of (i := 1) B_b0.out rfl
   have c2 := cell_of (i := 2) B_b0.out rfl
   go_wp2_with ((with_reducible refine zst (L := [44, 41, 31, 100]) ?_ ?_); exact rfl)
   unfold Hid
   clear d0 d1 c1 c2
   refine wpList_loadW rfl 100 (.tmp 4) rfl b0 rfl B_b0 Tryz.underlying100 (by kernel_rfl) (fun v62 H_v62 => ?_)
   go_wp2_with ((with_reducible refine zst (L := [44, 41, 31, 100]) ?_ ?_); exact rfl)
   unfold Hid
   refine wpList_storeW rfl 100 (.tmp 8) (.tmp 62) rfl b1 rfl _ (zcv H_v62) B_b1 rfl (by kernel_rfl) rfl (fun w6_ M6 => ?_)
   replace B_b0 := zwl M6 B_b0 D_b0_b1
   replace B_b1 := zwb M6
   replace B_b2 := zwg M6 B_b2 D_b1_b2
   replace HC := zwr M6 HC N_b1
   replace HB := zwr M6 HB N_b1
   replace HG := zwr M6 HG N_b1
   replace HF := zwr M6 HF N_b1
   replace EW := zwe M6 EW O_b1
   go_wp2
   have z0 := run_box (P := Tryz.prog) 100 B_b1.out Tryz.underlying100 (by kernel_rfl)
   refine bodyPost_ret (by simp [results, Tryz.results45, asAddr, z0]; rfl) rfl ?_
   exact ⟨_, rfl, EW.out, Rd.widen (A := B1) (tup3_rd (cn_rd (c := ⟨cl, at_, false, gen, [], gl⟩) HC.out HB.out HG.out) (Rd.all fun w => bytes_nil w)) (fun k _ h => HK.out.2.2.2 k (I_B1.out k h))⟩
  rw [hX0, if_pos ⟨rfl, rfl, rfl, rfl⟩]
  clear hX0
  go_enter Tryz.func45, Tryz.ntmps45
  go_wp2_with ((with_reducible refine zst (L := [44, 41, 31, 100]) ?_ ?_); exact rfl)
  unfold Hid
  refine wpList_boxB rfl 100 (.tmp 0) rfl #[.slice ca cl.length cc, I at_, .bool true, I gen, .slice (some ⟨xb, xo, none⟩) 1 1, .slice ga gl.length gc] rfl (fun b0 w1_ M1 => ?_)
  have B_b0 := zmb M1
  replace HC := zme M1 HC
  replace HB := zme M1 HB
  replace HG := zme M1 HG
  replace HF := zme M1 HF
  replace EW := zet EW M1
  go_wp2_with ((with_reducible refine zst (L := [44, 41, 31, 100]) ?_ ?_); exact rfl)
  unfold Hid
  refine wpList_allocB rfl 100 #[.slice none 0 0, I 0, .bool false, I 0, .slice none 0 0, .slice none 0 0] (by kernel_rfl) (fun b1 w2_ M2 => ?_)
  have D_b0_b1 := zld B_b0 M2
  replace B_b0 := zmo M2 B_b0
  have B_b1 := zmb M2
  replace HC := zme M2 HC
  replace HB := zme M2 HB
  replace HG := zme M2 HG
  replace HF := zme M2 HF
  replace EW := zet EW M2
  have A_b0 : Hid (b0 = w.heap.size + 0) := by unfold Hid; have q0 := M1.out.at_; have r0 := M1.out.size; omega
  have N_b0 := znb HK A_b0 (by decide)
  have O_b0 := zob A_b0
  have A_b1 : Hid (b1 = w.heap.size + 1) := by unfold Hid; have q0 := M1.out.at_; have r0 := M1.out.size; have q1 := M2.out.at_; have r1 := M2.out.size; omega
  have N_b1 := znb HK A_b1 (by decide)
  have O_b1 := zob A_b1
  have c4 := cell_of (i := 4) B_b0.out rfl
  have cx := HF.out.out.1
  go_wp2_with fail
  clear c4 cx
  have hl := refReadAnswer_any bv b w2_ HF.out.out.2
  rw [HRA.out] at hl
  refine Calls.exts hl (fun wa ea => ?_)
  clear hl
  replace B_b0 := zbx B_b0 ea
  replace B_b1 := zbx B_b1 ea
  replace HC := zrx HC ea
  replace HB := zrx HB ea
  replace HG := zrx HG ea
  replace HF := zrx HF ea
  replace EW := Lib.hid (EW.out.trans ea)
  go_wp2_with ((with_reducible refine zst (L := [44, 41, 31, 100]) ?_ ?_); exact rfl)
  unfold Hid
  refine wpList_allocB rfl 59 #[I 0, I 0, I 0, I 0] (by kernel_rfl) (fun b2 w3_ M3 => ?_)
  have D_b0_b2 := zld B_b0 M3
  have D_b1_b2 := zld B_b1 M3
  obtain ⟨B1, HB1⟩ : ∃ X : Nat → Prop, Hid (∀ k, X k ↔ (B k ∧ k ≠ b2)) := ⟨_, fun _ => Iff.rfl⟩
  replace HC := zmd HB1 M3 HC
  replace HB := zmd HB1 M3 HB
  replace HG := zmd HB1 M3 HG
  replace HF := zmd HB1 M3 HF
  replace N_b0 := znw HB1 N_b0
  replace N_b1 := znw HB1 N_b1
  have N_b2 : Hid (¬ B1 b2) := fun h => ((HB1.out _).1 h).2 rfl
  have I_B1 : Hid (∀ k, B1 k → B k) := fun k h => ((HB1.out k).1 h).1
  have O_b2 : Hid (w.heap.size ≤ b2) := by unfold Hid; have q2 := M3.out.at_; have q3 := EW.out.size; omega
  replace B_b0 := zmo M3 B_b0
  replace B_b1 := zmo M3 B_b1
  have B_b2 := zmb M3
  replace HC := zme M3 HC
  replace HB := zme M3 HB
  replace HG := zme M3 HG
  replace HF := zme M3 HF
  replace EW := zet EW M3
  go_wp2_with ((with_reducible refine zst (L := [44, 41, 31, 100]) ?_ ?_); exact rfl)
  unfold Hid
  refine wpList_storeW rfl 59 (.tmp 11) (.tmp 23) rfl b2 rfl [I ac, I at_, I re, I rn] (rfl) B_b2 rfl (by kernel_rfl) rfl (fun w4_ M4 => ?_)
  replace B_b0 := zwl M4 B_b0 D_b0_b2
  replace B_b1 := zwl M4 B_b1 D_b1_b2
  replace B_b2 := zwb M4
  replace HC := zwr M4 HC N_b2
  replace HB := zwr M4 HB N_b2
  replace HG := zwr M4 HG N_b2
  replace HF := zwr M4 HF N_b2
  replace EW := zwe M4 EW O_b2
  have c4 := cell_of (i := 4) B_b0.out rfl
  go_wp2_with ((with_reducible refine zst (L := [44, 41, 31, 100]) ?_ ?_); exact rfl)
  unfold Hid
  clear c4
  refine wpList_storeP rfl 32 (.tmp 28) (.tmp 27) rfl b0 4 rfl [.slice (some ⟨xb, xo, none⟩) 0 0] (rfl) B_b0 rfl (by kernel_rfl) rfl [.slice ca cl.length cc, I at_, .bool true, I gen, .slice (some ⟨xb, xo, none⟩) 0 0, .slice ga gl.length gc] rfl (fun w5_ M5 => ?_)
  replace B_b0 := zwb M5
  replace B_b1 := zwg M5 B_b1 D_b0_b1
  replace B_b2 := zwg M5 B_b2 D_b0_b2
  replace HC := zwr M5 HC N_b0
  replace HB := zwr M5 HB N_b0
  replace HG := zwr M5 HG N_b0
  replace HF := zwr M5 HF N_b0
  replace EW := zwe M5 EW O_b0
  have d0 := cell_of (i := 0) B_b2.out rfl
  have d1 := cell_of (i := 1) B_b2.out rfl
  have c1 := cell_of (i := 1) B_b0.out rfl
  have c2 := cell_of (i := 2) B_b0.out rfl
  go_wp2_with fail
  clear d0 d1 c1 c2
  have hbx := B_b0.out
  have hby := B_b2.out
  have x5 := cell_of (i := 5) hbx rfl
  have y2 := cell_of (i := 2) hby rfl
  have y3 := cell_of (i := 3) hby rfl
  obtain ⟨i0, hi, hz0, hz1, hz2⟩ := info_parts Tryz.infoRp
  have HI := Lib.hid hi
  clear hi
  refine wp_region_mono_weak 7 [some (.inr (FullOf w5_.heap.size 39 2 0 [])), none, none, some (.inr fun v wx => wx.ownsRow w5_.heap.size 39 2 v (0 + gl.length) ([] ++ cellsR gl)), none, none, some (.inr fun v wx => Row wx 2 v 1 (cellsR [⟨re, rn⟩]))] (fun v wx => wx.ownsRow w5_.heap.size 39 2 v (0 + gl.length + 1) ([] ++ cellsR gl ++ cellsR [⟨re, rn⟩])) (by kernel_rfl) (by kernel_rfl) (by kernel_rfl) ?_ (fun v => monoOwns _ _ _ _ _ v) ?_
  ·exact ⟨monoFull _ _ _ _ _, trivial, trivial, monoOwns _ _ _ _ _, trivial, trivial, fun _ _ _ he h => Row.ext h he, trivial⟩
  refine wpM_l _ rfl (fun w' hw' hk => ?_) (fun v48 => ?_)
  ·have hsz := hw'.size
   clear hk
   unfold makes
   go_simp
   exact ⟨(Ext.refl _).alloc _, full_lit #[] 0 hsz (by decide) rfl⟩
  refine wpM_norm (fun K hK => ?_); go_simp; refine hK _ ?_; clear hK K
  iterate 1 (refine wpM_p (fun K hK => ?_); go_simp; first | refine hK _ ?_ | refine ⟨(fun h => by cases h), hK _ ?_⟩; clear hK K)
  refine wpM_q (.slice ga gl.length gc) rfl (fun w' hw' => by have q0 := hw'.cell x5; go_simp) ?_
  refine wpM_norm (fun K hK => ?_); go_simp; refine hK _ ?_; clear hK K
  refine wpM_l _ rfl (fun w' hw' hk => ?_) (fun v51 => ?_)
  ·have h48 : FullOf w5_.heap.size 39 2 0 [] v48 w' := hk 48 (by decide)
   obtain ⟨vv, ww, hrun, hoo, hee⟩ := run_append_full (P := Tryz.prog) w' w5_.heap.size 98 98 39 i0 _ 2 16 Tryz.underlying98 HI.out hz0 hz1 hz2 rfl (by decide) v48 0 _ h48 (.slice ga gl.length gc) gl.length _ ((rowOf_rps.1 HG.out.out).ext hw') (cellsR_one _) (by have := HGL.out; omega) (by decide) hw'.size
   exact makes_append rfl rfl rfl hrun hee hoo
  refine wpM_norm (fun K hK => ?_); go_simp; refine hK _ ?_; clear hK K
  iterate 1 (refine wpM_p (fun K hK => ?_); go_simp; first | refine hK _ ?_ | refine ⟨(fun h => by cases h), hK _ ?_⟩; clear hK K)
  refine wpM_q (.agg #[I re, I rn]) rfl (fun w' hw' => by have q0 := hw'.cell y2; have q1 := hw'.cell y3; go_simp) ?_
  refine wpM_norm (fun K hK => ?_); go_simp; refine hK _ ?_; clear hK K
  refine wpM_l _ rfl (fun w' hw' hk => ?_) (fun v54 => ?_)
  ·skip
   clear hk
   unfold makes
   go_simp
   exact ⟨(Ext.refl _).alloc _, Row.of_owns (World.ownsRow_lit (base := 0) (size := 2) w' _ 1 (Nat.zero_le _) (by decide) rfl)⟩
  refine wpM_norm (fun K hK => ?_); go_simp; refine hK _ ?_; clear hK K
  refine wpM_nil ⟨_, _, rfl, rfl, rfl, fun w' hw' hk => ?_, fun v55 w9 e9 ho9 => ?_⟩
  ·have h51 : w'.ownsRow w5_.heap.size 39 2 v51 (0 + gl.length) ([] ++ cellsR gl) := hk 51 (by decide)
   have h54 : Row w' 2 v54 1 (cellsR [⟨re, rn⟩]) := hk 54 (by decide)
   obtain ⟨vv, ww, hrun, hoo, hgg⟩ := run_append_row (P := Tryz.prog) w' w5_.heap.size 98 98 39 i0 _ 2 16 Tryz.underlying98 HI.out hz0 hz1 hz2 rfl (by decide) v51 _ _ h51 v54 1 _ h54 (cellsR_one _) (by have := HGL.out; omega) (by decide) hw'.size
   exact ⟨vv, ww, run_append_op rfl rfl rfl hrun, hw'.grown hgg (fun j hj => (h51.lt j hj).1), hoo⟩
  clear x5 y2 y3 hbx hby
  have hro : Rd (fun k => w5_.heap.size ≤ k) (fun w => RowOf 2 elRp w v55 (gl ++ [⟨re, rn⟩])) w9 := rd_rps (by simpa [cellsR_append] using ho9)
  obtain ⟨qa, qc, hqs⟩ := rowOf_slice hro.out
  rw [show (gl ++ [(⟨re, rn⟩ : Rp)]).length = gl.length + 1 by simp] at hqs
  subst hqs
  have hsz : w.heap.size + 2 ≤ w5_.heap.size := by have q := (Array.getElem?_eq_some_iff.1 B_b1.out).1; have q2 := A_b1.out; omega
  have hsz2 : b2 < w5_.heap.size := (Array.getElem?_eq_some_iff.1 B_b2.out).1
  have HRO := Lib.hid (hro.widen (B := B1) (fun k _ h => (HB1.out k).2 ⟨HK.out.2.1 k (by omega), by omega⟩))
  clear hro ho9 hsz hsz2
  replace B_b0 := zbx B_b0 e9
  replace B_b1 := zbx B_b1 e9
  replace B_b2 := zbx B_b2 e9
  replace HC := zrx HC e9
  replace HB := zrx HB e9
  replace HG := zrx HG e9
  replace HF := zrx HF e9
  replace EW := Lib.hid (EW.out.trans e9)
  show wpList _ _ _ [_, _] _ _
  go_wp2_with ((with_reducible refine zst (L := [44, 41, 31, 100]) ?_ ?_); exact rfl)
  unfold Hid
  refine wpList_storeP rfl 98 (.tmp 56) (.tmp 55) rfl b0 5 rfl [.slice qa (gl.length + 1) qc] (rfl) B_b0 rfl (by kernel_rfl) rfl [.slice ca cl.length cc, I at_, .bool true, I gen, .slice (some ⟨xb, xo, none⟩) 0 0, .slice qa (gl.length + 1) qc] rfl (fun w6_ M6 => ?_)
  replace B_b0 := zwb M6
  replace B_b1 := zwg M6 B_b1 D_b0_b1
  replace B_b2 := zwg M6 B_b2 D_b0_b2
  replace HC := zwr M6 HC N_b0
  replace HB := zwr M6 HB N_b0
  replace HG := zwr M6 HG N_b0
  replace HF := zwr M6 HF N_b0
  replace HRO := zwr M6 HRO N_b0
  replace EW := zwe M6 EW O_b0
  have c1 := cell_of (i := 1) B_b0.out rfl
  go_wp2_with ((with_reducible refine zst (L := [44, 41, 31, 100]) ?_ ?_); exact rfl)
  unfold Hid
  clear c1
  refine wpList_storeP rfl 3 (.tmp 60) (.tmp 59) rfl b0 1 rfl [I (at_ + 1)] (rfl) B_b0 rfl (by kernel_rfl) rfl [.slice ca cl.length cc, I (at_ + 1), .bool true, I gen, .slice (some ⟨xb, xo, none⟩) 0 0, .slice qa (gl.length + 1) qc] rfl (fun w7_ M7 => ?_)
  replace B_b0 := zwb M7
  replace B_b1 := zwg M7 B_b1 D_b0_b1
  replace B_b2 := zwg M7 B_b2 D_b0_b2
  replace HC := zwr M7 HC N_b0
  replace HB := zwr M7 HB N_b0
  replace HG := zwr M7 HG N_b0
  replace HF := zwr M7 HF N_b0
  replace HRO := zwr M7 HRO N_b0
  replace EW := zwe M7 EW O_b0
  go_wp2_with ((with_reducible refine zst (L := [44, 41, 31, 100]) ?_ ?_); exact rfl)
  unfold Hid
  refine wpList_storeP rfl 4 (.tmp 61) (.const (.bool false)) rfl b0 2 rfl [.bool false] (rfl) B_b0 rfl (by kernel_rfl) rfl [.slice ca cl.length cc, I (at_ + 1), .bool false, I gen, .slice (some ⟨xb, xo, none⟩) 0 0, .slice qa (gl.length + 1) qc] rfl (fun w8_ M8 => ?_)
  replace B_b0 := zwb M8
  replace B_b1 := zwg M8 B_b1 D_b0_b1
  replace B_b2 := zwg M8 B_b2 D_b0_b2
  replace HC := zwr M8 HC N_b0
  replace HB := zwr M8 HB N_b0
  replace HG := zwr M8 HG N_b0
  replace HF := zwr M8 HF N_b0
  replace HRO := zwr M8 HRO N_b0
  replace EW := zwe M8 EW O_b0
  go_wp2_with ((with_reducible refine zst (L := [44, 41, 31, 100]) ?_ ?_); exact rfl)
  unfold Hid
  refine wpList_loadW rfl 100 (.tmp 4) rfl b0 rfl B_b0 Tryz.underlying100 (by kernel_rfl) (fun v62 H_v62 => ?_)
  go_wp2_with ((with_reducible refine zst (L := [44, 41, 31, 100]) ?_ ?_); exact rfl)
  unfold Hid
  refine wpList_storeW rfl 100 (.tmp 8) (.tmp 62) rfl b1 rfl _ (zcv H_v62) B_b1 rfl (by kernel_rfl) rfl (fun w9_ M9 => ?_)
  replace B_b0 := zwl M9 B_b0 D_b0_b1
  replace B_b1 := zwb M9
  replace B_b2 := zwg M9 B_b2 D_b1_b2
  replace HC := zwr M9 HC N_b1
  replace HB := zwr M9 HB N_b1
  replace HG := zwr M9 HG N_b1
  replace HF := zwr M9 HF N_b1
  replace HRO := zwr M9 HRO N_b1
  replace EW := zwe M9 EW O_b1
  go_wp2
  have z0 := run_box (P := Tryz.prog) 100 B_b1.out Tryz.underlying100 (by kernel_rfl)
  refine bodyPost_ret (by simp [results, Tryz.results45, asAddr, z0]; rfl) rfl ?_
  exact ⟨_, rfl, EW.out, Rd.widen (A := B1) (tup3_rd (cn_rd (c := ⟨cl, (at_ + 1), false, gen, [], (gl ++ [⟨re, rn⟩])⟩) HC.out HB.out HRO.out) (Rd.all fun w => bytes_nil w)) (fun k _ h => HK.out.2.2.2 k (I_B1.out k h))⟩
 by_cases a1 : ae = 0
 case neg =>
  rw [hX0, if_neg (fun h => a1 h.1)]
  have hb_a1 : (ae == 0) = false := by simpa using a1
  clear hX0
  go_enter Tryz.func45, Tryz.ntmps45
  go_wp2_with ((with_reducible refine zst (L := [44, 41, 31, 100]) ?_ ?_); exact rfl)
  unfold Hid
  refine wpList_boxB rfl 100 (.tmp 0) rfl #[.slice ca cl.length cc, I at_, .bool sent, I gen, .slice (some ⟨xb, xo, none⟩) (l.length + 1) xc, .slice ga gl.length gc] rfl (fun b0 w1_ M1 => ?_)
  have B_b0 := zmb M1
  replace HC := zme M1 HC
  replace HB := zme M1 HB
  replace HG := zme M1 HG
  replace HF := zme M1 HF
  replace EW := zet EW M1
  go_wp2_with ((with_reducible refine zst (L := [44, 41, 31, 100]) ?_ ?_); exact rfl)
  unfold Hid
  refine wpList_allocB rfl 100 #[.slice none 0 0, I 0, .bool false, I 0, .slice none 0 0, .slice none 0 0] (by kernel_rfl) (fun b1 w2_ M2 => ?_)
  have D_b0_b1 := zld B_b0 M2
  replace B_b0 := zmo M2 B_b0
  have B_b1 := zmb M2
  replace HC := zme M2 HC
  replace HB := zme M2 HB
  replace HG := zme M2 HG
  replace HF := zme M2 HF
  replace EW := zet EW M2
  have A_b0 : Hid (b0 = w.heap.size + 0) := by unfold Hid; have q0 := M1.out.at_; have r0 := M1.out.size; omega
  have N_b0 := znb HK A_b0 (by decide)
  have O_b0 := zob A_b0
  have A_b1 : Hid (b1 = w.heap.size + 1) := by unfold Hid; have q0 := M1.out.at_; have r0 := M1.out.size; have q1 := M2.out.at_; have r1 := M2.out.size; omega
  have N_b1 := znb HK A_b1 (by decide)
  have O_b1 := zob A_b1
  have c4 := cell_of (i := 4) B_b0.out rfl
  have cx := HF.out.out.1
  go_wp2_with fail
  clear c4 cx
  have hl := refReadAnswer_any bv b w2_ HF.out.out.2
  rw [HRA.out] at hl
  refine Calls.exts hl (fun wa ea => ?_)
  clear hl
  replace B_b0 := zbx B_b0 ea
  replace B_b1 := zbx B_b1 ea
  replace HC := zrx HC ea
  replace HB := zrx HB ea
  replace HG := zrx HG ea
  replace HF := zrx HF ea
  replace EW := Lib.hid (EW.out.trans ea)
  go_wp2_with ((with_reducible refine zst (L := [44, 41, 31, 100]) ?_ ?_); exact rfl)
  unfold Hid
  refine wpList_allocB rfl 59 #[I 0, I 0, I 0, I 0] (by kernel_rfl) (fun b2 w3_ M3 => ?_)
  have D_b0_b2 := zld B_b0 M3
  have D_b1_b2 := zld B_b1 M3
  obtain ⟨B1, HB1⟩ : ∃ X : Nat → Prop, Hid (∀ k, X k ↔ (B k ∧ k ≠ b2)) := ⟨_, fun _ => Iff.rfl⟩
  replace HC := zmd HB1 M3 HC
  replace HB := zmd HB1 M3 HB
  replace HG := zmd HB1 M3 HG
  replace HF := zmd HB1 M3 HF
  replace N_b0 := znw HB1 N_b0
  replace N_b1 := znw HB1 N_b1
  have N_b2 : Hid (¬ B1 b2) := fun h => ((HB1.out _).1 h).2 rfl
  have I_B1 : Hid (∀ k, B1 k → B k) := fun k h => ((HB1.out k).1 h).1
  have O_b2 : Hid (w.heap.size ≤ b2) := by unfold Hid; have q2 := M3.out.at_; have q3 := EW.out.size; omega
  replace B_b0 := zmo M3 B_b0
  replace B_b1 := zmo M3 B_b1
  have B_b2 := zmb M3
  replace HC := zme M3 HC
  replace HB := zme M3 HB
  replace HG := zme M3 HG
  replace HF := zme M3 HF
  replace EW := zet EW M3
  go_wp2_with ((with_reducible refine zst (L := [44, 41, 31, 100]) ?_ ?_); exact rfl)
  unfold Hid
  refine wpList_storeW rfl 59 (.tmp 11) (.tmp 23) rfl b2 rfl [I ac, I at2, I re, I rn] (rfl) B_b2 rfl (by kernel_rfl) rfl (fun w4_ M4 => ?_)
  replace B_b0 := zwl M4 B_b0 D_b0_b2
  replace B_b1 := zwl M4 B_b1 D_b1_b2
  replace B_b2 := zwb M4
  replace HC := zwr M4 HC N_b2
  replace HB := zwr M4 HB N_b2
  replace HG := zwr M4 HG N_b2
  replace HF := zwr M4 HF N_b2
  replace EW := zwe M4 EW O_b2
  have c4 := cell_of (i := 4) B_b0.out rfl
  go_wp2_with ((with_reducible refine zst (L := [44, 41, 31, 100]) ?_ ?_); exact rfl)
  unfold Hid
  clear c4
  refine wpList_storeP rfl 32 (.tmp 28) (.tmp 27) rfl b0 4 rfl [.slice (some ⟨xb, xo + 1, none⟩) l.length (xc - 1)] (rfl) B_b0 rfl (by kernel_rfl) rfl [.slice ca cl.length cc, I at_, .bool sent, I gen, .slice (some ⟨xb, xo + 1, none⟩) l.length (xc - 1), .slice ga gl.length gc] rfl (fun w5_ M5 => ?_)
  replace B_b0 := zwb M5
  replace B_b1 := zwg M5 B_b1 D_b0_b1
  replace B_b2 := zwg M5 B_b2 D_b0_b2
  replace HC := zwr M5 HC N_b0
  replace HB := zwr M5 HB N_b0
  replace HG := zwr M5 HG N_b0
  replace HF := zwr M5 HF N_b0
  replace EW := zwe M5 EW O_b0
  have d0 := cell_of (i := 0) B_b2.out rfl
  have d1 := cell_of (i := 1) B_b2.out rfl
  have c1 := cell_of (i := 1) B_b0.out rfl
  have c2 := cell_of (i := 2) B_b0.out rfl
  go_wp2_with ((with_reducible refine zst (L := [44, 41, 31, 100]) ?_ ?_); exact rfl)
  unfold Hid
  clear d0 d1 c1 c2
  refine wpList_loadW rfl 100 (.tmp 4) rfl b0 rfl B_b0 Tryz.underlying100 (by kernel_rfl) (fun v62 H_v62 => ?_)
  go_wp2_with ((with_reducible refine zst (L := [44, 41, 31, 100]) ?_ ?_); exact rfl)
  unfold Hid
  refine wpList_storeW rfl 100 (.tmp 8) (.tmp 62) rfl b1 rfl _ (zcv H_v62) B_b1 rfl (by kernel_rfl) rfl (fun w6_ M6 => ?_)
  replace B_b0 := zwl M6 B_b0 D_b0_b1
  replace B_b1 := zwb M6
  replace B_b2 := zwg M6 B_b2 D_b1_b2
  replace HC := zwr M6 HC N_b1
  replace HB := zwr M6 HB N_b1
  replace HG := zwr M6 HG N_b1
  replace HF := zwr M6 HF N_b1
  replace EW := zwe M6 EW O_b1
  go_wp2
  have z0 := run_box (P := Tryz.prog) 100 B_b1.out Tryz.underlying100 (by kernel_rfl)
  refine bodyPost_ret (by simp [results, Tryz.results45, asAddr, z0]; rfl) rfl ?_
  exact ⟨_, rfl, EW.out, Rd.widen (A := B1) (tup3_rd (cn_rd (c := ⟨cl, at_, sent, gen, l, gl⟩) HC.out HB.out HG.out) (Rd.all fun w => bytes_nil w)) (fun k _ h => HK.out.2.2.2 k (I_B1.out k h))⟩
 subst a1
 by_cases a2 : ac = me
 case neg =>
  rw [hX0, if_neg (fun h => a2 h.2.1)]
  have hb_a2 : (ac == me) = false := by simpa using a2
  clear hX0
  go_enter Tryz.func45, Tryz.ntmps45
  go_wp2_with ((with_reducible refine zst (L := [44, 41, 31, 100]) ?_ ?_); exact rfl)
  unfold Hid
  refine wpList_boxB rfl 100 (.tmp 0) rfl #[.slice ca cl.length cc, I at_, .bool sent, I gen, .slice (some ⟨xb, xo, none⟩) (l.length + 1) xc, .slice ga gl.length gc] rfl (fun b0 w1_ M1 => ?_)
  have B_b0 := zmb M1
  replace HC := zme M1 HC
  replace HB := zme M1 HB
  replace HG := zme M1 HG
  replace HF := zme M1 HF
  replace EW := zet EW M1
  go_wp2_with ((with_reducible refine zst (L := [44, 41, 31, 100]) ?_ ?_); exact rfl)
  unfold Hid
  refine wpList_allocB rfl 100 #[.slice none 0 0, I 0, .bool false, I 0, .slice none 0 0, .slice none 0 0] (by kernel_rfl) (fun b1 w2_ M2 => ?_)
  have D_b0_b1 := zld B_b0 M2
  replace B_b0 := zmo M2 B_b0
  have B_b1 := zmb M2
  replace HC := zme M2 HC
  replace HB := zme M2 HB
  replace HG := zme M2 HG
  replace HF := zme M2 HF
  replace EW := zet EW M2
  have A_b0 : Hid (b0 = w.heap.size + 0) := by unfold Hid; have q0 := M1.out.at_; have r0 := M1.out.size; omega
  have N_b0 := znb HK A_b0 (by decide)
  have O_b0 := zob A_b0
  have A_b1 : Hid (b1 = w.heap.size + 1) := by unfold Hid; have q0 := M1.out.at_; have r0 := M1.out.size; have q1 := M2.out.at_; have r1 := M2.out.size; omega
  have N_b1 := znb HK A_b1 (by decide)
  have O_b1 := zob A_b1
  have c4 := cell_of (i := 4) B_b0.out rfl
  have cx := HF.out.out.1
  go_wp2_with fail
  clear c4 cx
  have hl := refReadAnswer_any bv b w2_ HF.out.out.2
  rw [HRA.out] at hl
  refine Calls.exts hl (fun wa ea => ?_)
  clear hl
  replace B_b0 := zbx B_b0 ea
  replace B_b1 := zbx B_b1 ea
  replace HC := zrx HC ea
  replace HB := zrx HB ea
  replace HG := zrx HG ea
  replace HF := zrx HF ea
  replace EW := Lib.hid (EW.out.trans ea)
  go_wp2_with ((with_reducible refine zst (L := [44, 41, 31, 100]) ?_ ?_); exact rfl)
  unfold Hid
  refine wpList_allocB rfl 59 #[I 0, I 0, I 0, I 0] (by kernel_rfl) (fun b2 w3_ M3 => ?_)
  have D_b0_b2 := zld B_b0 M3
  have D_b1_b2 := zld B_b1 M3
  obtain ⟨B1, HB1⟩ : ∃ X : Nat → Prop, Hid (∀ k, X k ↔ (B k ∧ k ≠ b2)) := ⟨_, fun _ => Iff.rfl⟩
  replace HC := zmd HB1 M3 HC
  replace HB := zmd HB1 M3 HB
  replace HG := zmd HB1 M3 HG
  replace HF := zmd HB1 M3 HF
  replace N_b0 := znw HB1 N_b0
  replace N_b1 := znw HB1 N_b1
  have N_b2 : Hid (¬ B1 b2) := fun h => ((HB1.out _).1 h).2 rfl
  have I_B1 : Hid (∀ k, B1 k → B k) := fun k h => ((HB1.out k).1 h).1
  have O_b2 : Hid (w.heap.size ≤ b2) := by unfold Hid; have q2 := M3.out.at_; have q3 := EW.out.size; omega
  replace B_b0 := zmo M3 B_b0
  replace B_b1 := zmo M3 B_b1
  have B_b2 := zmb M3
  replace HC := zme M3 HC
  replace HB := zme M3 HB
  replace HG := zme M3 HG
  replace HF := zme M3 HF
  replace EW := zet EW M3
  go_wp2_with ((with_reducible refine zst (L := [44, 41, 31, 100]) ?_ ?_); exact rfl)
  unfold Hid
  refine wpList_storeW rfl 59 (.tmp 11) (.tmp 23) rfl b2 rfl [I ac, I at2, I re, I rn] (rfl) B_b2 rfl (by kernel_rfl) rfl (fun w4_ M4 => ?_)
  replace B_b0 := zwl M4 B_b0 D_b0_b2
  replace B_b1 := zwl M4 B_b1 D_b1_b2
  replace B_b2 := zwb M4
  replace HC := zwr M4 HC N_b2
  replace HB := zwr M4 HB N_b2
  replace HG := zwr M4 HG N_b2
  replace HF := zwr M4 HF N_b2
  replace EW := zwe M4 EW O_b2
  have c4 := cell_of (i := 4) B_b0.out rfl
  go_wp2_with ((with_reducible refine zst (L := [44, 41, 31, 100]) ?_ ?_); exact rfl)
  unfold Hid
  clear c4
  refine wpList_storeP rfl 32 (.tmp 28) (.tmp 27) rfl b0 4 rfl [.slice (some ⟨xb, xo + 1, none⟩) l.length (xc - 1)] (rfl) B_b0 rfl (by kernel_rfl) rfl [.slice ca cl.length cc, I at_, .bool sent, I gen, .slice (some ⟨xb, xo + 1, none⟩) l.length (xc - 1), .slice ga gl.length gc] rfl (fun w5_ M5 => ?_)
  replace B_b0 := zwb M5
  replace B_b1 := zwg M5 B_b1 D_b0_b1
  replace B_b2 := zwg M5 B_b2 D_b0_b2
  replace HC := zwr M5 HC N_b0
  replace HB := zwr M5 HB N_b0
  replace HG := zwr M5 HG N_b0
  replace HF := zwr M5 HF N_b0
  replace EW := zwe M5 EW O_b0
  have d0 := cell_of (i := 0) B_b2.out rfl
  have d1 := cell_of (i := 1) B_b2.out rfl
  have c1 := cell_of (i := 1) B_b0.out rfl
  have c2 := cell_of (i := 2) B_b0.out rfl
  go_wp2_with ((with_reducible refine zst (L := [44, 41, 31, 100]) ?_ ?_); exact rfl)
  unfold Hid
  clear d0 d1 c1 c2
  refine wpList_loadW rfl 100 (.tmp 4) rfl b0 rfl B_b0 Tryz.underlying100 (by kernel_rfl) (fun v62 H_v62 => ?_)
  go_wp2_with ((with_reducible refine zst (L := [44, 41, 31, 100]) ?_ ?_); exact rfl)
  unfold Hid
  refine wpList_storeW rfl 100 (.tmp 8) (.tmp 62) rfl b1 rfl _ (zcv H_v62) B_b1 rfl (by kernel_rfl) rfl (fun w6_ M6 => ?_)
  replace B_b0 := zwl M6 B_b0 D_b0_b1
  replace B_b1 := zwb M6
  replace B_b2 := zwg M6 B_b2 D_b1_b2
  replace HC := zwr M6 HC N_b1
  replace HB := zwr M6 HB N_b1
  replace HG := zwr M6 HG N_b1
  replace HF := zwr M6 HF N_b1
  replace EW := zwe M6 EW O_b1
  go_wp2
  have z0 := run_box (P := Tryz.prog) 100 B_b1.out Tryz.underlying100 (by kernel_rfl)
  refine bodyPost_ret (by simp [results, Tryz.results45, asAddr, z0]; rfl) rfl ?_
  exact ⟨_, rfl, EW.out, Rd.widen (A := B1) (tup3_rd (cn_rd (c := ⟨cl, at_, sent, gen, l, gl⟩) HC.out HB.out HG.out) (Rd.all fun w => bytes_nil w)) (fun k _ h => HK.out.2.2.2 k (I_B1.out k h))⟩
 subst a2
 by_cases a3 : at2 = at_
 case neg =>
  rw [hX0, if_neg (fun h => a3 h.2.2.1)]
  have hb_a3 : (at2 == at_) = false := by simpa using a3
  clear hX0
  go_enter Tryz.func45, Tryz.ntmps45
  go_wp2_with ((with_reducible refine zst (L := [44, 41, 31, 100]) ?_ ?_); exact rfl)
  unfold Hid
  refine wpList_boxB rfl 100 (.tmp 0) rfl #[.slice ca cl.length cc, I at_, .bool sent, I gen, .slice (some ⟨xb, xo, none⟩) (l.length + 1) xc, .slice ga gl.length gc] rfl (fun b0 w1_ M1 => ?_)
  have B_b0 := zmb M1
  replace HC := zme M1 HC
  replace HB := zme M1 HB
  replace HG := zme M1 HG
  replace HF := zme M1 HF
  replace EW := zet EW M1
  go_wp2_with ((with_reducible refine zst (L := [44, 41, 31, 100]) ?_ ?_); exact rfl)
  unfold Hid
  refine wpList_allocB rfl 100 #[.slice none 0 0, I 0, .bool false, I 0, .slice none 0 0, .slice none 0 0] (by kernel_rfl) (fun b1 w2_ M2 => ?_)
  have D_b0_b1 := zld B_b0 M2
  replace B_b0 := zmo M2 B_b0
  have B_b1 := zmb M2
  replace HC := zme M2 HC
  replace HB := zme M2 HB
  replace HG := zme M2 HG
  replace HF := zme M2 HF
  replace EW := zet EW M2
  have A_b0 : Hid (b0 = w.heap.size + 0) := by unfold Hid; have q0 := M1.out.at_; have r0 := M1.out.size; omega
  have N_b0 := znb HK A_b0 (by decide)
  have O_b0 := zob A_b0
  have A_b1 : Hid (b1 = w.heap.size + 1) := by unfold Hid; have q0 := M1.out.at_; have r0 := M1.out.size; have q1 := M2.out.at_; have r1 := M2.out.size; omega
  have N_b1 := znb HK A_b1 (by decide)
  have O_b1 := zob A_b1
  have c4 := cell_of (i := 4) B_b0.out rfl
  have cx := HF.out.out.1
  go_wp2_with fail
  clear c4 cx
  have hl := refReadAnswer_any bv b w2_ HF.out.out.2
  rw [HRA.out] at hl
  refine Calls.exts hl (fun wa ea => ?_)
  clear hl
  replace B_b0 := zbx B_b0 ea
  replace B_b1 := zbx B_b1 ea
  replace HC := zrx HC ea
  replace HB := zrx HB ea
  replace HG := zrx HG ea
  replace HF := zrx HF ea
  replace EW := Lib.hid (EW.out.trans ea)
  go_wp2_with ((with_reducible refine zst (L := [44, 41, 31, 100]) ?_ ?_); exact rfl)
  unfold Hid
  refine wpList_allocB rfl 59 #[I 0, I 0, I 0, I 0] (by kernel_rfl) (fun b2 w3_ M3 => ?_)
  have D_b0_b2 := zld B_b0 M3
  have D_b1_b2 := zld B_b1 M3
  obtain ⟨B1, HB1⟩ : ∃ X : Nat → Prop, Hid (∀ k, X k ↔ (B k ∧ k ≠ b2)) := ⟨_, fun _ => Iff.rfl⟩
  replace HC := zmd HB1 M3 HC
  replace HB := zmd HB1 M3 HB
  replace HG := zmd HB1 M3 HG
  replace HF := zmd HB1 M3 HF
  replace N_b0 := znw HB1 N_b0
  replace N_b1 := znw HB1 N_b1
  have N_b2 : Hid (¬ B1 b2) := fun h => ((HB1.out _).1 h).2 rfl
  have I_B1 : Hid (∀ k, B1 k → B k) := fun k h => ((HB1.out k).1 h).1
  have O_b2 : Hid (w.heap.size ≤ b2) := by unfold Hid; have q2 := M3.out.at_; have q3 := EW.out.size; omega
  replace B_b0 := zmo M3 B_b0
  replace B_b1 := zmo M3 B_b1
  have B_b2 := zmb M3
  replace HC := zme M3 HC
  replace HB := zme M3 HB
  replace HG := zme M3 HG
  replace HF := zme M3 HF
  replace EW := zet EW M3
  go_wp2_with ((with_reducible refine zst (L := [44, 41, 31, 100]) ?_ ?_); exact rfl)
  unfold Hid
  refine wpList_storeW rfl 59 (.tmp 11) (.tmp 23) rfl b2 rfl [I ac, I at2, I re, I rn] (rfl) B_b2 rfl (by kernel_rfl) rfl (fun w4_ M4 => ?_)
  replace B_b0 := zwl M4 B_b0 D_b0_b2
  replace B_b1 := zwl M4 B_b1 D_b1_b2
  replace B_b2 := zwb M4
  replace HC := zwr M4 HC N_b2
  replace HB := zwr M4 HB N_b2
  replace HG := zwr M4 HG N_b2
  replace HF := zwr M4 HF N_b2
  replace EW := zwe M4 EW O_b2
  have c4 := cell_of (i := 4) B_b0.out rfl
  go_wp2_with ((with_reducible refine zst (L := [44, 41, 31, 100]) ?_ ?_); exact rfl)
  unfold Hid
  clear c4
  refine wpList_storeP rfl 32 (.tmp 28) (.tmp 27) rfl b0 4 rfl [.slice (some ⟨xb, xo + 1, none⟩) l.length (xc - 1)] (rfl) B_b0 rfl (by kernel_rfl) rfl [.slice ca cl.length cc, I at_, .bool sent, I gen, .slice (some ⟨xb, xo + 1, none⟩) l.length (xc - 1), .slice ga gl.length gc] rfl (fun w5_ M5 => ?_)
  replace B_b0 := zwb M5
  replace B_b1 := zwg M5 B_b1 D_b0_b1
  replace B_b2 := zwg M5 B_b2 D_b0_b2
  replace HC := zwr M5 HC N_b0
  replace HB := zwr M5 HB N_b0
  replace HG := zwr M5 HG N_b0
  replace HF := zwr M5 HF N_b0
  replace EW := zwe M5 EW O_b0
  have d0 := cell_of (i := 0) B_b2.out rfl
  have d1 := cell_of (i := 1) B_b2.out rfl
  have c1 := cell_of (i := 1) B_b0.out rfl
  have c2 := cell_of (i := 2) B_b0.out rfl
  go_wp2_with ((with_reducible refine zst (L := [44, 41, 31, 100]) ?_ ?_); exact rfl)
  unfold Hid
  clear d0 d1 c1 c2
  refine wpList_loadW rfl 100 (.tmp 4) rfl b0 rfl B_b0 Tryz.underlying100 (by kernel_rfl) (fun v62 H_v62 => ?_)
  go_wp2_with ((with_reducible refine zst (L := [44, 41, 31, 100]) ?_ ?_); exact rfl)
  unfold Hid
  refine wpList_storeW rfl 100 (.tmp 8) (.tmp 62) rfl b1 rfl _ (zcv H_v62) B_b1 rfl (by kernel_rfl) rfl (fun w6_ M6 => ?_)
  replace B_b0 := zwl M6 B_b0 D_b0_b1
  replace B_b1 := zwb M6
  replace B_b2 := zwg M6 B_b2 D_b1_b2
  replace HC := zwr M6 HC N_b1
  replace HB := zwr M6 HB N_b1
  replace HG := zwr M6 HG N_b1
  replace HF := zwr M6 HF N_b1
  replace EW := zwe M6 EW O_b1
  go_wp2
  have z0 := run_box (P := Tryz.prog) 100 B_b1.out Tryz.underlying100 (by kernel_rfl)
  refine bodyPost_ret (by simp [results, Tryz.results45, asAddr, z0]; rfl) rfl ?_
  exact ⟨_, rfl, EW.out, Rd.widen (A := B1) (tup3_rd (cn_rd (c := ⟨cl, at_, sent, gen, l, gl⟩) HC.out HB.out HG.out) (Rd.all fun w => bytes_nil w)) (fun k _ h => HK.out.2.2.2 k (I_B1.out k h))⟩
 replace a3 := a3.symm
 subst a3
 cases sent
 case false =>
  rw [hX0, if_neg (fun h => by cases h.2.2.2)]
  clear hX0
  go_enter Tryz.func45, Tryz.ntmps45
  go_wp2_with ((with_reducible refine zst (L := [44, 41, 31, 100]) ?_ ?_); exact rfl)
  unfold Hid
  refine wpList_boxB rfl 100 (.tmp 0) rfl #[.slice ca cl.length cc, I at_, .bool false, I gen, .slice (some ⟨xb, xo, none⟩) (l.length + 1) xc, .slice ga gl.length gc] rfl (fun b0 w1_ M1 => ?_)
  have B_b0 := zmb M1
  replace HC := zme M1 HC
  replace HB := zme M1 HB
  replace HG := zme M1 HG
  replace HF := zme M1 HF
  replace EW := zet EW M1
  go_wp2_with ((with_reducible refine zst (L := [44, 41, 31, 100]) ?_ ?_); exact rfl)
  unfold Hid
  refine wpList_allocB rfl 100 #[.slice none 0 0, I 0, .bool false, I 0, .slice none 0 0, .slice none 0 0] (by kernel_rfl) (fun b1 w2_ M2 => ?_)
  have D_b0_b1 := zld B_b0 M2
  replace B_b0 := zmo M2 B_b0
  have B_b1 := zmb M2
  replace HC := zme M2 HC
  replace HB := zme M2 HB
  replace HG := zme M2 HG
  replace HF := zme M2 HF
  replace EW := zet EW M2
  have A_b0 : Hid (b0 = w.heap.size + 0) := by unfold Hid; have q0 := M1.out.at_; have r0 := M1.out.size; omega
  have N_b0 := znb HK A_b0 (by decide)
  have O_b0 := zob A_b0
  have A_b1 : Hid (b1 = w.heap.size + 1) := by unfold Hid; have q0 := M1.out.at_; have r0 := M1.out.size; have q1 := M2.out.at_; have r1 := M2.out.size; omega
  have N_b1 := znb HK A_b1 (by decide)
  have O_b1 := zob A_b1
  have c4 := cell_of (i := 4) B_b0.out rfl
  have cx := HF.out.out.1
  go_wp2_with fail
  clear c4 cx
  have hl := refReadAnswer_any bv b w2_ HF.out.out.2
  rw [HRA.out] at hl
  refine Calls.exts hl (fun wa ea => ?_)
  clear hl
  replace B_b0 := zbx B_b0 ea
  replace B_b1 := zbx B_b1 ea
  replace HC := zrx HC ea
  replace HB := zrx HB ea
  replace HG := zrx HG ea
  replace HF := zrx HF ea
  replace EW := Lib.hid (EW.out.trans ea)
  go_wp2_with ((with_reducible refine zst (L := [44, 41, 31, 100]) ?_ ?_); exact rfl)
  unfold Hid
  refine wpList_allocB rfl 59 #[I 0, I 0, I 0, I 0] (by kernel_rfl) (fun b2 w3_ M3 => ?_)
  have D_b0_b2 := zld B_b0 M3
  have D_b1_b2 := zld B_b1 M3
  obtain ⟨B1, HB1⟩ : ∃ X : Nat → Prop, Hid (∀ k, X k ↔ (B k ∧ k ≠ b2)) := ⟨_, fun _ => Iff.rfl⟩
  replace HC := zmd HB1 M3 HC
  replace HB := zmd HB1 M3 HB
  replace HG := zmd HB1 M3 HG
  replace HF := zmd HB1 M3 HF
  replace N_b0 := znw HB1 N_b0
  replace N_b1 := znw HB1 N_b1
  have N_b2 : Hid (¬ B1 b2) := fun h => ((HB1.out _).1 h).2 rfl
  have I_B1 : Hid (∀ k, B1 k → B k) := fun k h => ((HB1.out k).1 h).1
  have O_b2 : Hid (w.heap.size ≤ b2) := by unfold Hid; have q2 := M3.out.at_; have q3 := EW.out.size; omega
  replace B_b0 := zmo M3 B_b0
  replace B_b1 := zmo M3 B_b1
  have B_b2 := zmb M3
  replace HC := zme M3 HC
  replace HB := zme M3 HB
  replace HG := zme M3 HG
  replace HF := zme M3 HF
  replace EW := zet EW M3
  go_wp2_with ((with_reducible refine zst (L := [44, 41, 31, 100]) ?_ ?_); exact rfl)
  unfold Hid
  refine wpList_storeW rfl 59 (.tmp 11) (.tmp 23) rfl b2 rfl [I ac, I at_, I re, I rn] (rfl) B_b2 rfl (by kernel_rfl) rfl (fun w4_ M4 => ?_)
  replace B_b0 := zwl M4 B_b0 D_b0_b2
  replace B_b1 := zwl M4 B_b1 D_b1_b2
  replace B_b2 := zwb M4
  replace HC := zwr M4 HC N_b2
  replace HB := zwr M4 HB N_b2
  replace HG := zwr M4 HG N_b2
  replace HF := zwr M4 HF N_b2
  replace EW := zwe M4 EW O_b2
  have c4 := cell_of (i := 4) B_b0.out rfl
  go_wp2_with ((with_reducible refine zst (L := [44, 41, 31, 100]) ?_ ?_); exact rfl)
  unfold Hid
  clear c4
  refine wpList_storeP rfl 32 (.tmp 28) (.tmp 27) rfl b0 4 rfl [.slice (some ⟨xb, xo + 1, none⟩) l.length (xc - 1)] (rfl) B_b0 rfl (by kernel_rfl) rfl [.slice ca cl.length cc, I at_, .bool false, I gen, .slice (some ⟨xb, xo + 1, none⟩) l.length (xc - 1), .slice ga gl.length gc] rfl (fun w5_ M5 => ?_)
  replace B_b0 := zwb M5
  replace B_b1 := zwg M5 B_b1 D_b0_b1
  replace B_b2 := zwg M5 B_b2 D_b0_b2
  replace HC := zwr M5 HC N_b0
  replace HB := zwr M5 HB N_b0
  replace HG := zwr M5 HG N_b0
  replace HF := zwr M5 HF N_b0
  replace EW := zwe M5 EW O_b0
  have d0 := cell_of (i := 0) B_b2.out rfl
  have d1 := cell_of (i := 1) B_b2.out rfl
  have c1 := cell_of (i := 1) B_b0.out rfl
  have c2 := cell_of (i := 2) B_b0.out rfl
  go_wp2_with ((with_reducible refine zst (L := [44, 41, 31, 100]) ?_ ?_); exact rfl)
  unfold Hid
  clear d0 d1 c1 c2
  refine wpList_loadW rfl 100 (.tmp 4) rfl b0 rfl B_b0 Tryz.underlying100 (by kernel_rfl) (fun v62 H_v62 => ?_)
  go_wp2_with ((with_reducible refine zst (L := [44, 41, 31, 100]) ?_ ?_); exact rfl)
  unfold Hid
  refine wpList_storeW rfl 100 (.tmp 8) (.tmp 62) rfl b1 rfl _ (zcv H_v62) B_b1 rfl (by kernel_rfl) rfl (fun w6_ M6 => ?_)
  replace B_b0 := zwl M6 B_b0 D_b0_b1
  replace B_b1 := zwb M6
  replace B_b2 := zwg M6 B_b2 D_b1_b2
  replace HC := zwr M6 HC N_b1
  replace HB := zwr M6 HB N_b1
  replace HG := zwr M6 HG N_b1
  replace HF := zwr M6 HF N_b1
  replace EW := zwe M6 EW O_b1
  go_wp2
  have z0 := run_box (P := Tryz.prog) 100 B_b1.out Tryz.underlying100 (by kernel_rfl)
  refine bodyPost_ret (by simp [results, Tryz.results45, asAddr, z0]; rfl) rfl ?_
  exact ⟨_, rfl, EW.out, Rd.widen (A := B1) (tup3_rd (cn_rd (c := ⟨cl, at_, false, gen, l, gl⟩) HC.out HB.out HG.out) (Rd.all fun w => bytes_nil w)) (fun k _ h => HK.out.2.2.2 k (I_B1.out k h))⟩
 rw [hX0, if_pos ⟨rfl, rfl, rfl, rfl⟩]
 clear hX0
 go_enter Tryz.func45, Tryz.ntmps45
 go_wp2_with ((with_reducible refine zst (L := [44, 41, 31, 100]) ?_ ?_); exact rfl)
 unfold Hid
 refine wpList_boxB rfl 100 (.tmp 0) rfl #[.slice ca cl.length cc, I at_, .bool true, I gen, .slice (some ⟨xb, xo, none⟩) (l.length + 1) xc, .slice ga gl.length gc] rfl (fun b0 w1_ M1 => ?_)
 have B_b0 := zmb M1
 replace HC := zme M1 HC
 replace HB := zme M1 HB
 replace HG := zme M1 HG
 replace HF := zme M1 HF
 replace EW := zet EW M1
 go_wp2_with ((with_reducible refine zst (L := [44, 41, 31, 100]) ?_ ?_); exact rfl)
 unfold Hid
 refine wpList_allocB rfl 100 #[.slice none 0 0, I 0, .bool false, I 0, .slice none 0 0, .slice none 0 0] (by kernel_rfl) (fun b1 w2_ M2 => ?_)
 have D_b0_b1 := zld B_b0 M2
 replace B_b0 := zmo M2 B_b0
 have B_b1 := zmb M2
 replace HC := zme M2 HC
 replace HB := zme M2 HB
 replace HG := zme M2 HG
 replace HF := zme M2 HF
 replace EW := zet EW M2
 have A_b0 : Hid (b0 = w.heap.size + 0) := by unfold Hid; have q0 := M1.out.at_; have r0 := M1.out.size; omega
 have N_b0 := znb HK A_b0 (by decide)
 have O_b0 := zob A_b0
 have A_b1 : Hid (b1 = w.heap.size + 1) := by unfold Hid; have q0 := M1.out.at_; have r0 := M1.out.size; have q1 := M2.out.at_; have r1 := M2.out.size; omega
 have N_b1 := znb HK A_b1 (by decide)
 have O_b1 := zob A_b1
 have c4 := cell_of (i := 4) B_b0.out rfl
 have cx := HF.out.out.1
 go_wp2_with fail
 clear c4 cx
 have hl := refReadAnswer_any bv b w2_ HF.out.out.2
 rw [HRA.out] at hl
 refine Calls.exts hl (fun wa ea => ?_)
 clear hl
 replace B_b0 := zbx B_b0 ea
 replace B_b1 := zbx B_b1 ea
 replace HC := zrx HC ea
 replace HB := zrx HB ea
 replace HG := zrx HG ea
 replace HF := zrx HF ea
 replace EW := Lib.hid (EW.out.trans ea)
 go_wp2_with ((with_reducible refine zst (L := [44, 41, 31, 100]) ?_ ?_); exact rfl)
 unfold Hid
 refine wpList_allocB rfl 59 #[I 0, I 0, I 0, I 0] (by kernel_rfl) (fun b2 w3_ M3 => ?_)
 have D_b0_b2 := zld B_b0 M3
 have D_b1_b2 := zld B_b1 M3
 obtain ⟨B1, HB1⟩ : ∃ X : Nat → Prop, Hid (∀ k, X k ↔ (B k ∧ k ≠ b2)) := ⟨_, fun _ => Iff.rfl⟩
 replace HC := zmd HB1 M3 HC
 replace HB := zmd HB1 M3 HB
 replace HG := zmd HB1 M3 HG
 replace HF := zmd HB1 M3 HF
 replace N_b0 := znw HB1 N_b0
 replace N_b1 := znw HB1 N_b1
 have N_b2 : Hid (¬ B1 b2) := fun h => ((HB1.out _).1 h).2 rfl
 have I_B1 : Hid (∀ k, B1 k → B k) := fun k h => ((HB1.out k).1 h).1
 have O_b2 : Hid (w.heap.size ≤ b2) := by unfold Hid; have q2 := M3.out.at_; have q3 := EW.out.size; omega
 replace B_b0 := zmo M3 B_b0
 replace B_b1 := zmo M3 B_b1
 have B_b2 := zmb M3
 replace HC := zme M3 HC
 replace HB := zme M3 HB
 replace HG := zme M3 HG
 replace HF := zme M3 HF
 replace EW := zet EW M3
 go_wp2_with ((with_reducible refine zst (L := [44, 41, 31, 100]) ?_ ?_); exact rfl)
 unfold Hid
 refine wpList_storeW rfl 59 (.tmp 11) (.tmp 23) rfl b2 rfl [I ac, I at_, I re, I rn] (rfl) B_b2 rfl (by kernel_rfl) rfl (fun w4_ M4 => ?_)
 replace B_b0 := zwl M4 B_b0 D_b0_b2
 replace B_b1 := zwl M4 B_b1 D_b1_b2
 replace B_b2 := zwb M4
 replace HC := zwr M4 HC N_b2
 replace HB := zwr M4 HB N_b2
 replace HG := zwr M4 HG N_b2
 replace HF := zwr M4 HF N_b2
 replace EW := zwe M4 EW O_b2
 have c4 := cell_of (i := 4) B_b0.out rfl
 go_wp2_with ((with_reducible refine zst (L := [44, 41, 31, 100]) ?_ ?_); exact rfl)
 unfold Hid
 clear c4
 refine wpList_storeP rfl 32 (.tmp 28) (.tmp 27) rfl b0 4 rfl [.slice (some ⟨xb, xo + 1, none⟩) l.length (xc - 1)] (rfl) B_b0 rfl (by kernel_rfl) rfl [.slice ca cl.length cc, I at_, .bool true, I gen, .slice (some ⟨xb, xo + 1, none⟩) l.length (xc - 1), .slice ga gl.length gc] rfl (fun w5_ M5 => ?_)
 replace B_b0 := zwb M5
 replace B_b1 := zwg M5 B_b1 D_b0_b1
 replace B_b2 := zwg M5 B_b2 D_b0_b2
 replace HC := zwr M5 HC N_b0
 replace HB := zwr M5 HB N_b0
 replace HG := zwr M5 HG N_b0
 replace HF := zwr M5 HF N_b0
 replace EW := zwe M5 EW O_b0
 have d0 := cell_of (i := 0) B_b2.out rfl
 have d1 := cell_of (i := 1) B_b2.out rfl
 have c1 := cell_of (i := 1) B_b0.out rfl
 have c2 := cell_of (i := 2) B_b0.out rfl
 go_wp2_with fail
 clear d0 d1 c1 c2
 have hbx := B_b0.out
 have hby := B_b2.out
 have x5 := cell_of (i := 5) hbx rfl
 have y2 := cell_of (i := 2) hby rfl
 have y3 := cell_of (i := 3) hby rfl
 obtain ⟨i0, hi, hz0, hz1, hz2⟩ := info_parts Tryz.infoRp
 have HI := Lib.hid hi
 clear hi
 refine wp_region_mono_weak 7 [some (.inr (FullOf w5_.heap.size 39 2 0 [])), none, none, some (.inr fun v wx => wx.ownsRow w5_.heap.size 39 2 v (0 + gl.length) ([] ++ cellsR gl)), none, none, some (.inr fun v wx => Row wx 2 v 1 (cellsR [⟨re, rn⟩]))] (fun v wx => wx.ownsRow w5_.heap.size 39 2 v (0 + gl.length + 1) ([] ++ cellsR gl ++ cellsR [⟨re, rn⟩])) (by kernel_rfl) (by kernel_rfl) (by kernel_rfl) ?_ (fun v => monoOwns _ _ _ _ _ v) ?_
 ·exact ⟨monoFull _ _ _ _ _, trivial, trivial, monoOwns _ _ _ _ _, trivial, trivial, fun _ _ _ he h => Row.ext h he, trivial⟩
 refine wpM_l _ rfl (fun w' hw' hk => ?_) (fun v48 => ?_)
 ·have hsz := hw'.size
  clear hk
  unfold makes
  go_simp
  exact ⟨(Ext.refl _).alloc _, full_lit #[] 0 hsz (by decide) rfl⟩
 refine wpM_norm (fun K hK => ?_); go_simp; refine hK _ ?_; clear hK K
 iterate 1 (refine wpM_p (fun K hK => ?_); go_simp; first | refine hK _ ?_ | refine ⟨(fun h => by cases h), hK _ ?_⟩; clear hK K)
 refine wpM_q (.slice ga gl.length gc) rfl (fun w' hw' => by have q0 := hw'.cell x5; go_simp) ?_
 refine wpM_norm (fun K hK => ?_); go_simp; refine hK _ ?_; clear hK K
 refine wpM_l _ rfl (fun w' hw' hk => ?_) (fun v51 => ?_)
 ·have h48 : FullOf w5_.heap.size 39 2 0 [] v48 w' := hk 48 (by decide)
  obtain ⟨vv, ww, hrun, hoo, hee⟩ := run_append_full (P := Tryz.prog) w' w5_.heap.size 98 98 39 i0 _ 2 16 Tryz.underlying98 HI.out hz0 hz1 hz2 rfl (by decide) v48 0 _ h48 (.slice ga gl.length gc) gl.length _ ((rowOf_rps.1 HG.out.out).ext hw') (cellsR_one _) (by have := HGL.out; omega) (by decide) hw'.size
  exact makes_append rfl rfl rfl hrun hee hoo
 refine wpM_norm (fun K hK => ?_); go_simp; refine hK _ ?_; clear hK K
 iterate 1 (refine wpM_p (fun K hK => ?_); go_simp; first | refine hK _ ?_ | refine ⟨(fun h => by cases h), hK _ ?_⟩; clear hK K)
 refine wpM_q (.agg #[I re, I rn]) rfl (fun w' hw' => by have q0 := hw'.cell y2; have q1 := hw'.cell y3; go_simp) ?_
 refine wpM_norm (fun K hK => ?_); go_simp; refine hK _ ?_; clear hK K
 refine wpM_l _ rfl (fun w' hw' hk => ?_) (fun v54 => ?_)
 ·skip
  clear hk
  unfold makes
  go_simp
  exact ⟨(Ext.refl _).alloc _, Row.of_owns (World.ownsRow_lit (base := 0) (size := 2) w' _ 1 (Nat.zero_le _) (by decide) rfl)⟩
 refine wpM_norm (fun K hK => ?_); go_simp; refine hK _ ?_; clear hK K
 refine wpM_nil ⟨_, _, rfl, rfl, rfl, fun w' hw' hk => ?_, fun v55 w9 e9 ho9 => ?_⟩
 ·have h51 : w'.ownsRow w5_.heap.size 39 2 v51 (0 + gl.length) ([] ++ cellsR gl) := hk 51 (by decide)
  have h54 : Row w' 2 v54 1 (cellsR [⟨re, rn⟩]) := hk 54 (by decide)
  obtain ⟨vv, ww, hrun, hoo, hgg⟩ := run_append_row (P := Tryz.prog) w' w5_.heap.size 98 98 39 i0 _ 2 16 Tryz.underlying98 HI.out hz0 hz1 hz2 rfl (by decide) v51 _ _ h51 v54 1 _ h54 (cellsR_one _) (by have := HGL.out; omega) (by decide) hw'.size
  exact ⟨vv, ww, run_append_op rfl rfl rfl hrun, hw'.grown hgg (fun j hj => (h51.lt j hj).1), hoo⟩
 clear x5 y2 y3 hbx hby
 have hro : Rd (fun k => w5_.heap.size ≤ k) (fun w => RowOf 2 elRp w v55 (gl ++ [⟨re, rn⟩])) w9 := rd_rps (by simpa [cellsR_append] using ho9)
 obtain ⟨qa, qc, hqs⟩ := rowOf_slice hro.out
 rw [show (gl ++ [(⟨re, rn⟩ : Rp)]).length = gl.length + 1 by simp] at hqs
 subst hqs
 have hsz : w.heap.size + 2 ≤ w5_.heap.size := by have q := (Array.getElem?_eq_some_iff.1 B_b1.out).1; have q2 := A_b1.out; omega
 have hsz2 : b2 < w5_.heap.size := (Array.getElem?_eq_some_iff.1 B_b2.out).1
 have HRO := Lib.hid (hro.widen (B := B1) (fun k _ h => (HB1.out k).2 ⟨HK.out.2.1 k (by omega), by omega⟩))
 clear hro ho9 hsz hsz2
 replace B_b0 := zbx B_b0 e9
 replace B_b1 := zbx B_b1 e9
 replace B_b2 := zbx B_b2 e9
 replace HC := zrx HC e9
 replace HB := zrx HB e9
 replace HG := zrx HG e9
 replace HF := zrx HF e9
 replace EW := Lib.hid (EW.out.trans e9)
 show wpList _ _ _ [_, _] _ _
 go_wp2_with ((with_reducible refine zst (L := [44, 41, 31, 100]) ?_ ?_); exact rfl)
 unfold Hid
 refine wpList_storeP rfl 98 (.tmp 56) (.tmp 55) rfl b0 5 rfl [.slice qa (gl.length + 1) qc] (rfl) B_b0 rfl (by kernel_rfl) rfl [.slice ca cl.length cc, I at_, .bool true, I gen, .slice (some ⟨xb, xo + 1, none⟩) l.length (xc - 1), .slice qa (gl.length + 1) qc] rfl (fun w6_ M6 => ?_)
 replace B_b0 := zwb M6
 replace B_b1 := zwg M6 B_b1 D_b0_b1
 replace B_b2 := zwg M6 B_b2 D_b0_b2
 replace HC := zwr M6 HC N_b0
 replace HB := zwr M6 HB N_b0
 replace HG := zwr M6 HG N_b0
 replace HF := zwr M6 HF N_b0
 replace HRO := zwr M6 HRO N_b0
 replace EW := zwe M6 EW O_b0
 have c1 := cell_of (i := 1) B_b0.out rfl
 go_wp2_with ((with_reducible refine zst (L := [44, 41, 31, 100]) ?_ ?_); exact rfl)
 unfold Hid
 clear c1
 refine wpList_storeP rfl 3 (.tmp 60) (.tmp 59) rfl b0 1 rfl [I (at_ + 1)] (rfl) B_b0 rfl (by kernel_rfl) rfl [.slice ca cl.length cc, I (at_ + 1), .bool true, I gen, .slice (some ⟨xb, xo + 1, none⟩) l.length (xc - 1), .slice qa (gl.length + 1) qc] rfl (fun w7_ M7 => ?_)
 replace B_b0 := zwb M7
 replace B_b1 := zwg M7 B_b1 D_b0_b1
 replace B_b2 := zwg M7 B_b2 D_b0_b2
 replace HC := zwr M7 HC N_b0
 replace HB := zwr M7 HB N_b0
 replace HG := zwr M7 HG N_b0
 replace HF := zwr M7 HF N_b0
 replace HRO := zwr M7 HRO N_b0
 replace EW := zwe M7 EW O_b0
 go_wp2_with ((with_reducible refine zst (L := [44, 41, 31, 100]) ?_ ?_); exact rfl)
 unfold Hid
 refine wpList_storeP rfl 4 (.tmp 61) (.const (.bool false)) rfl b0 2 rfl [.bool false] (rfl) B_b0 rfl (by kernel_rfl) rfl [.slice ca cl.length cc, I (at_ + 1), .bool false, I gen, .slice (some ⟨xb, xo + 1, none⟩) l.length (xc - 1), .slice qa (gl.length + 1) qc] rfl (fun w8_ M8 => ?_)
 replace B_b0 := zwb M8
 replace B_b1 := zwg M8 B_b1 D_b0_b1
 replace B_b2 := zwg M8 B_b2 D_b0_b2
 replace HC := zwr M8 HC N_b0
 replace HB := zwr M8 HB N_b0
 replace HG := zwr M8 HG N_b0
 replace HF := zwr M8 HF N_b0
 replace HRO := zwr M8 HRO N_b0
 replace EW := zwe M8 EW O_b0
 go_wp2_with ((with_reducible refine zst (L := [44, 41, 31, 100]) ?_ ?_); exact rfl)
 unfold Hid
 refine wpList_loadW rfl 100 (.tmp 4) rfl b0 rfl B_b0 Tryz.underlying100 (by kernel_rfl) (fun v62 H_v62 => ?_)
 go_wp2_with ((with_reducible refine zst (L := [44, 41, 31, 100]) ?_ ?_); exact rfl)
 unfold Hid
 refine wpList_storeW rfl 100 (.tmp 8) (.tmp 62) rfl b1 rfl _ (zcv H_v62) B_b1 rfl (by kernel_rfl) rfl (fun w9_ M9 => ?_)
 replace B_b0 := zwl M9 B_b0 D_b0_b1
 replace B_b1 := zwb M9
 replace B_b2 := zwg M9 B_b2 D_b1_b2
 replace HC := zwr M9 HC N_b1
 replace HB := zwr M9 HB N_b1
 replace HG := zwr M9 HG N_b1
 replace HF := zwr M9 HF N_b1
 replace HRO := zwr M9 HRO N_b1
 replace EW := zwe M9 EW O_b1
 go_wp2
 have z0 := run_box (P := Tryz.prog) 100 B_b1.out Tryz.underlying100 (by kernel_rfl)
 refine bodyPost_ret (by simp [results, Tryz.results45, asAddr, z0]; rfl) rfl ?_
 exact ⟨_, rfl, EW.out, Rd.widen (A := B1) (tup3_rd (cn_rd (c := ⟨cl, (at_ + 1), false, gen, l, (gl ++ [⟨re, rn⟩])⟩) HC.out HB.out HRO.out) (Rd.all fun w => bytes_nil w)) (fun k _ h => HK.out.2.2.2 k (I_B1.out k h))⟩

end Go.Proofs.YtmfocpmnnbhodadGreat

namespace Go.Proofs.YtmfocpmnnbhodadGreat
open Go.RowKit Go.Mk
set_option maxRecDepth 100000

/-- All with that name have the number; if there is none, it is put last. -/
def setR (l : List (Int × Int)) (name n : Int) : List (Int × Int) := l.map fun p => if p.1 = name then (p.1, n) else p

theorem setR_snoc (l : List (Int × Int)) (p : Int × Int) (name n : Int) : setR (l ++ [p]) name n = setR l name n ++ [if p.1 = name then (p.1, n) else p] := by simp [setR]

theorem length_setR (l : List (Int × Int)) (name n : Int) : (setR l name n).length = l.length := by simp [setR]

theorem setR_none {l : List (Int × Int)} {name : Int} (ha : ¬ at1 l name < l.length) (n : Int) : setR l name n = l := by
 have e : at1 l name = l.length := by have := at1_le l name; omega
 refine ext_getD (length_setR _ _ _) fun j hj => ?_
 rw [length_setR] at hj
 have hn : (l.getD j (0, 0)).1 ≠ name := at1_before (by omega)
 simp [setR, List.getD_eq_getElem?_getD, hj] at hn ⊢
 intro h
 exact absurd h hn

/-- What a name has; 0, if it is not there. -/
def getR (l : List (Int × Int)) (name : Int) : Int := if at1 l name < l.length then num l (at1 l name) else 0

def isR (l : List (Int × Int)) (name : Int) : Bool := decide (at1 l name < l.length)

/-- It is among the first k. -/
def seenR (l : List (Int × Int)) (name : Int) (k : Nat) : Bool := decide (at1 l name < k)

theorem getR_hit {l : List (Int × Int)} {name : Int} (h : at1 l name < l.length) : getR l name = num l (at1 l name) := if_pos h

theorem isR_hit {l : List (Int × Int)} {name : Int} (h : at1 l name < l.length) : isR l name = true := decide_eq_true h

theorem getR_none {l : List (Int × Int)} {name : Int} (h : ¬ at1 l name < l.length) : getR l name = 0 := if_neg h

theorem isR_none {l : List (Int × Int)} {name : Int} (h : ¬ at1 l name < l.length) : isR l name = false := decide_eq_false h

set_option maxHeartbeats 400000 in
theorem rget_any (v : Value) (l : List (Int × Int)) (name : Int) (w : World) (hv : Writes w v l) :
  Calls Tryz.prog 42 #[v, I name] w fun e w' => e = .returned (.tuple #[I (getR l name), .bool (isR l name)]) ∧ Ext w w' := by
 obtain ⟨ao, cap, rfl, h1, h2, h3⟩ := hv.form
 unfold maxLen at h2
 clear hv
 go_enter Tryz.func42, Tryz.ntmps42
 go_wp2
 go_loopw [10] (fun i wr => ∃ k : Nat, k ≤ l.length ∧ i = I k ∧ (∀ j, j < k → (l.getD j (0, 0)).1 ≠ name) ∧ Ext w wr) (fun i _ => l.length - (intOf i).toNat)
 case atStart => exact ⟨0, by omega, rfl, fun j hj => by omega, Ext.refl w⟩
 case round =>
  obtain ⟨k, hk, rfl, hf, he⟩ := hrel
  have HF : Hid (∀ j, j < k → (l.getD j (0, 0)).1 ≠ name) := hf
  clear hf
  by_cases hlt : k < l.length
  ·obtain ⟨b, off, rfl, hc1, hc2⟩ := h3 k hlt
   clear h3
   have hd1 := he.cell hc1
   have hd2 := he.cell hc2
   clear hc1 hc2
   generalize hp : l.getD k (0, 0) = p at hd1 hd2
   have HP : Hid (l.getD k (0, 0) = p) := hp
   clear hp
   obtain ⟨at_, n⟩ := p
   simp only [] at hd1 hd2
   by_cases hn : at_ = name
   ·have hb : (at_ == name) = true := by simp [hn]
    have HN : Hid (at_ = name) := hn
    clear hn
    go_wp2
    go_ret2
    have := at1_of hlt (by rw [HP.out]; exact HN.out) HF.out
    refine ⟨?_, he.alloc _⟩
    have hnum : num l k = n := by unfold num; rw [HP.out]
    rw [getR_hit (by omega), isR_hit (by omega), this, hnum]
    rfl
   ·have hb : (at_ == name) = false := by simpa using hn
    have HN : Hid (at_ ≠ name) := hn
    clear hn
    go_wp2
    go_roundw
    case rel =>
     refine ⟨k + 1, by omega, by go_num, fun j hj => ?_, he.alloc _⟩
     by_cases hjk : j < k
     ·exact HF.out j hjk
     ·rw [show j = k by omega, HP.out]; exact HN.out
    case measure => simp [intOf]; omega
  ·go_wp2
   go_ret2
   have := at1_none (l := l) (name := name) (fun j hj => HF.out j (by omega))
   refine ⟨?_, he⟩
   rw [getR_none (by omega), isR_none (by omega)]
   rfl

/-- .. put last, where it is not there. -/
def setX (l : List (Int × Int)) (name n : Int) : List (Int × Int) := setR l name n ++ if at1 l name < l.length then [] else [(name, n)]

theorem setX_hit {l : List (Int × Int)} {name n : Int} (h : at1 l name < l.length) : setX l name n = setR l name n := by unfold setX; rw [if_pos h, List.append_nil]

theorem setX_none {l : List (Int × Int)} {name n : Int} (h : ¬ at1 l name < l.length) : setX l name n = setR l name n ++ [(name, n)] := by unfold setX; rw [if_neg h]

set_option maxHeartbeats 1000000 in
theorem rset_any (v : Value) (l : List (Int × Int)) (name n : Int) (w : World) (hv : Writes w v l) (hr : (l.length + 1) * 16 ≤ 140737488355328) :
  Calls Tryz.prog 44 #[v, I name, I n] w fun e w' => ∃ r, e = .returned r ∧ Ext w w' ∧ Has w.heap.size w' r (setX l name n) := by
 obtain ⟨i0, hi, hz0, hz1, hz2⟩ := info_parts Tryz.infoWrite2
 obtain ⟨ao, cap, rfl, h1, h2, h3⟩ := hv.form
 unfold maxLen at h2
 clear hv
 go_enter Tryz.func44, Tryz.ntmps44
 go_wp2
 go_loopw [7, 8, 13] (fun o d i wr => ∃ k : Nat, k ≤ l.length ∧ i = I k ∧ d = .bool (seenR l name k) ∧ wr.ownsRow w.heap.size 79 2 o k (cells2 (setR (l.take k) name n)) ∧ Ext w wr) (fun _ _ i _ => l.length - (intOf i).toNat)
 case atStart => exact ⟨0, by omega, rfl, by simp [seenR], World.ownsRow_nil _ _ _ _, Ext.refl w⟩
 case round =>
  obtain ⟨k, hk, rfl, rfl, ho, he⟩ := hrel
  by_cases hlt : k < l.length
  ·obtain ⟨b, off, rfl, hc1, hc2⟩ := h3 k hlt
   clear h3
   have hd1 := he.cell hc1
   have hd2 := he.cell hc2
   clear hc1 hc2
   have HB : Hid ((l.getD k (0, 0)).1 = name → at1 l name ≤ k) := fun h => Nat.le_of_not_lt fun hlt => at1_before hlt h
   have HB2 : Hid ((l.getD k (0, 0)).1 ≠ name → at1 l name ≠ k) := fun h e => h (by rw [← e]; exact at1_hit (by omega))
   have HT : Hid (setR (l.take (k + 1)) name n = setR (l.take k) name n ++ [if (l.getD k (0, 0)).1 = name then ((l.getD k (0, 0)).1, n) else l.getD k (0, 0)]) := by
    unfold Hid
    rw [List.take_add_one, List.getElem?_eq_getElem hlt, List.getD_eq_getElem?_getD, List.getElem?_eq_getElem hlt]
    exact setR_snoc _ _ _ _
   generalize l.getD k (0, 0) = p at *
   obtain ⟨at_, m⟩ := p
   simp only [] at hd1 hd2 HB HB2 HT
   by_cases hn : at_ = name
   ·have hb : (at_ == name) = true := by simp [hn]
    have HN : Hid (at_ = name) := hn
    clear hn
    go_wp2_with (at_builtin; refine stop_at ?_)
    unfold Hid
    refine wpList_append_row _ rfl (.tmp 23) (.tmp 25) 27 rfl w.heap.size 79 i0 (.agg #[.int .i64 0, .int .i64 0]) 2 16 Tryz.underlying27 hi hz0 hz1 hz2 rfl (by decide) u7 k (cells2 (setR (l.take k) name n)) rfl ((ho.alloc _).alloc _) _ rfl 1 [I at_, I n] (writes_lit1 _ _ [(at_, n)] _ 1 rfl rfl (by decide)) (cells2_one [(at_, n)]) (by omega) (by decide) (by have := he.size; simp; omega) ?_
    intro o' w3 ho3 hg3
    have he3 : Ext w w3 := ((he.alloc _).alloc _).grown hg3 (fun j hj => (ho.lt j hj).1)
    clear hg3
    go_wp2
    go_roundw
    case rel =>
     refine ⟨k + 1, by omega, by go_num, ?_, ?_, he3⟩
     ·have := HB.out HN.out
      simp [seenR]; omega
     ·rw [HT.out, if_pos HN.out, cells2_append]; exact ho3
    case measure => simp [intOf]; omega
   ·have hb : (at_ == name) = false := by simpa using hn
    have HN : Hid (at_ ≠ name) := hn
    clear hn
    go_wp2_with (at_builtin; refine stop_at ?_)
    unfold Hid
    refine wpList_append_row _ rfl (.tmp 23) (.tmp 25) 27 rfl w.heap.size 79 i0 (.agg #[.int .i64 0, .int .i64 0]) 2 16 Tryz.underlying27 hi hz0 hz1 hz2 rfl (by decide) u7 k (cells2 (setR (l.take k) name n)) rfl ((ho.alloc _).alloc _) _ rfl 1 [I at_, I m] (writes_lit1 _ _ [(at_, m)] _ 1 rfl rfl (by decide)) (cells2_one [(at_, m)]) (by omega) (by decide) (by have := he.size; simp; omega) ?_
    intro o' w3 ho3 hg3
    have he3 : Ext w w3 := ((he.alloc _).alloc _).grown hg3 (fun j hj => (ho.lt j hj).1)
    clear hg3
    go_wp2
    go_roundw
    case rel =>
     refine ⟨k + 1, by omega, by go_num, ?_, ?_, he3⟩
     ·have := HB2.out HN.out
      simp [seenR]; omega
     ·rw [HT.out, if_neg HN.out, cells2_append]; exact ho3
    case measure => simp [intOf]; omega
  ·have hkl : k = l.length := by omega
   subst hkl
   rw [List.take_of_length_le (Nat.le_refl _)] at ho
   by_cases ha : at1 l name < l.length
   ·have hse : seenR l name l.length = true := by simp [seenR, ha]
    go_wp2
    go_ret
    refine ⟨_, rfl, he, ?_⟩
    rw [setX_hit ha]
    exact ⟨_, _, _, ho, fun w2 h2 => writes_of_owns h2⟩
   ·have hse : seenR l name l.length = false := by simp [seenR]; omega
    go_wp2_with (at_builtin; refine stop_at ?_)
    unfold Hid
    refine wpList_append_row _ rfl (.tmp 30) (.tmp 34) 27 rfl w.heap.size 79 i0 (.agg #[.int .i64 0, .int .i64 0]) 2 16 Tryz.underlying27 hi hz0 hz1 hz2 rfl (by decide) u7 l.length (cells2 (setR l name n)) rfl (ho.alloc _) _ rfl 1 [I name, I n] (writes_lit (l := [(name, n)]) _ _ 1 rfl rfl (by decide)) (cells2_one [(name, n)]) (by omega) (by decide) (by have := he.size; simp; omega) ?_
    intro o' w3 ho3 hg3
    have he3 : Ext w w3 := (he.alloc _).grown hg3 (fun j hj => (ho.lt j hj).1)
    clear hg3
    go_wp2
    go_ret
    refine ⟨_, rfl, he3, ?_⟩
    rw [setX_none ha]
    rw [show cells2 (setR l name n) ++ [I name, I n] = cells2 (setR l name n ++ [(name, n)]) from (cells2_append _ [(name, n)]).symm] at ho3
    exact ⟨_, _, _, ho3, fun w2 h2 => writes_of_owns h2⟩

end Go.Proofs.YtmfocpmnnbhodadGreat

namespace Go.Proofs.YtmfocpmnnbhodadGreat
open Go.RowKit Go.Mk
set_option maxRecDepth 100000

theorem setX_last {l : List (Int × Int)} {name : Int} (ha : ¬ at1 l name < l.length) (n : Int) : setX l name n = l ++ [(name, n)] := by rw [setX_none ha, setR_none ha]

theorem rno_any (b : Nat) (v : Value) (e : Int) (w : World) (hb : w.cell? ⟨b, 0, none⟩ = some v) (hbl : b < w.heap.size) :
  Calls Tryz.prog 43 #[I e, .pointer (some ⟨b, 0, none⟩)] w fun x w' => x = .returned (.tuple #[v, .agg #[I e, I 0]]) ∧ Ext w w' := by
 go_enter Tryz.func43, Tryz.ntmps43
 go_wp2
 go_returns
 exact ⟨rfl, (Ext.refl w).alloc _⟩

/-- Names without one: wherever it is, the last one is. -/
def dropR (l : List (Int × Int)) (a : Int) : List (Int × Int) := (l.map fun p => if p.1 = a then l.getD (l.length - 1) (0, 0) else p).take (l.length - 1)
/-- What the document's Do makes of names that need not be unlike. -/
def doR (l : List (Int × Int)) (c : Cl) : List (Int × Int) × Rp :=
 if c.kind = 5 then (l, ⟨0, l.length⟩)
 else if c.kind = 1 then
  if at1 l c.name < l.length then (setR l c.name c.n, ⟨0, num l (at1 l c.name)⟩)
  else if 5 ≤ l.length then (l, ⟨9, 0⟩) else (l ++ [(c.name, c.n)], ⟨0, 0⟩)
 else if ¬ at1 l c.name < l.length then (l, ⟨6, 0⟩)
 else if c.kind = 2 then (l, ⟨0, num l (at1 l c.name)⟩)
 else if c.kind = 3 then (dropR l c.name, ⟨0, num l (at1 l c.name)⟩)
 else if c.kind = 4 then
  if ¬ (-1073741824 ≤ num l (at1 l c.name) + c.n ∧ num l (at1 l c.name) + c.n ≤ 1073741824) then (l, ⟨3, 0⟩)
  else (setR l c.name (num l (at1 l c.name) + c.n), ⟨0, num l (at1 l c.name) + c.n⟩)
 else if ¬ at1 l c.other < l.length then (l, ⟨6, 0⟩)
 else (setR (setR l c.name (num l (at1 l c.other))) c.other (num l (at1 l c.name)), ⟨0, num l (at1 l c.other)⟩)
theorem doR_count (l : List (Int × Int)) (a o n : Int) : doR l ⟨5, a, o, n⟩ = (l, ⟨0, l.length⟩) := rfl
theorem doR_put (l : List (Int × Int)) (a o n : Int) : doR l ⟨1, a, o, n⟩ = if at1 l a < l.length then (setR l a n, ⟨0, num l (at1 l a)⟩) else if 5 ≤ l.length then (l, ⟨9, 0⟩) else (l ++ [(a, n)], ⟨0, 0⟩) := rfl
theorem doR_get (l : List (Int × Int)) (a o n : Int) : doR l ⟨2, a, o, n⟩ = if ¬ at1 l a < l.length then (l, ⟨6, 0⟩) else (l, ⟨0, num l (at1 l a)⟩) := rfl
theorem doR_drop (l : List (Int × Int)) (a o n : Int) : doR l ⟨3, a, o, n⟩ = if ¬ at1 l a < l.length then (l, ⟨6, 0⟩) else (dropR l a, ⟨0, num l (at1 l a)⟩) := rfl
theorem doR_add (l : List (Int × Int)) (a o n : Int) : doR l ⟨4, a, o, n⟩ = if ¬ at1 l a < l.length then (l, ⟨6, 0⟩) else if ¬ (-1073741824 ≤ num l (at1 l a) + n ∧ num l (at1 l a) + n ≤ 1073741824) then (l, ⟨3, 0⟩) else (setR l a (num l (at1 l a) + n), ⟨0, num l (at1 l a) + n⟩) := rfl
theorem doR_swap' (l : List (Int × Int)) (a b n : Int) : doR l ⟨6, a, b, n⟩ = if ¬ at1 l a < l.length then (l, ⟨6, 0⟩) else if ¬ at1 l b < l.length then (l, ⟨6, 0⟩)
 else (setR (setR l a (num l (at1 l b))) b (num l (at1 l a)), ⟨0, num l (at1 l b)⟩) := rfl
/-- What is told does not ask whether names are unlike. -/
theorem doR_snd (l : List (Int × Int)) (c : Cl) : (doR l c).2 = (doCl l c).2 := by
 unfold doR doCl
 repeat' split
 all_goals rfl
theorem getD_setR (l : List (Int × Int)) (name n : Int) (j : Nat) (hj : j < l.length) : (setR l name n).getD j (0, 0) = if (l.getD j (0, 0)).1 = name then ((l.getD j (0, 0)).1, n) else l.getD j (0, 0) := by
 simp [setR, List.getD_eq_getElem?_getD, hj]
theorem at1_setR (l : List (Int × Int)) (name n x : Int) : at1 (setR l name n) x = at1 l x := by
 have hf : ∀ j, j < l.length → ((setR l name n).getD j (0, 0)).1 = (l.getD j (0, 0)).1 := fun j hj => by
  rw [getD_setR _ _ _ _ hj]; split <;> rfl
 by_cases h : at1 l x < l.length
 ·refine at1_of (by rw [length_setR]; exact h) (by rw [hf _ h]; exact at1_hit h) (fun j hj => by rw [hf _ (by omega)]; exact at1_before hj)
 ·have e : at1 l x = l.length := by have := at1_le l x; omega
  rw [e, ← length_setR l name n]
  refine at1_none fun j hj => ?_
  rw [length_setR] at hj
  rw [hf _ hj]
  exact at1_before (by omega)
theorem length_dropR (l : List (Int × Int)) (a : Int) : (dropR l a).length = l.length - 1 := by simp [dropR]
theorem getD_dropR (l : List (Int × Int)) (a : Int) (j : Nat) (hj : j < l.length - 1) : (dropR l a).getD j (0, 0) = if (l.getD j (0, 0)).1 = a then l.getD (l.length - 1) (0, 0) else l.getD j (0, 0) := by
 have h2 : j < l.length := by omega
 unfold dropR
 rw [List.getD_eq_getElem?_getD, List.getElem?_take, if_pos hj, List.getElem?_map, List.getElem?_eq_getElem h2]
 simp [List.getD_eq_getElem?_getD, h2]
/-- What the document's Do hands back; it lies in memory of its own where the names did. -/
def DoesW (w : World) (v : Value) (l : List (Int × Int)) (c : Cl) (e : Ending) (w' : World) : Prop :=
 ∃ u, e = .returned (.tuple #[u, (doR l c).2.val]) ∧ Writes w' u (doR l c).1 ∧ ∀ base, base ≤ w.heap.size → Has base w v l → Has base w' u (doR l c).1
theorem doesW_same {w w' : World} {l : List (Int × Int)} {c : Cl} {v : Value} {r : Rp} (h : doR l c = (l, r)) (hv : Writes w v l) (he : Ext w w') : DoesW w v l c (.returned (.tuple #[v, r.val])) w' := by
 refine ⟨v, ?_, ?_, fun base _ hh => ?_⟩ <;> rw [h]
 ·exact hv.ext he
 ·exact hh.ext he
theorem doesW_new {w w' : World} {l l' : List (Int × Int)} {c : Cl} {u v : Value} {r : Rp} {b : Nat} (h : doR l c = (l', r)) (hu : Has b w' u l') (hb : w.heap.size ≤ b) : DoesW w v l c (.returned (.tuple #[u, r.val])) w' := by
 refine ⟨u, ?_, ?_, fun base hle _ => ?_⟩ <;> rw [h]
 ·exact hu.writes
 ·exact hu.low (Nat.le_trans hle hb)

/-- What lies in memory when the document's Do begins. -/
theorem rbox {w : World} {x : Value} {k a o n : Int} (wx : World) (hx : Ext (((w.alloc (.cells #[x] 27)).alloc (.cells #[I k, I a, I o, I n] 34)).alloc (.cells #[I 0, I 0] 39)) wx) :
   wx.cell? ⟨w.heap.size, 0, none⟩ = some x ∧ wx.cell? ⟨w.heap.size + 1, 0, none⟩ = some (I k) ∧ wx.cell? ⟨w.heap.size + 1, 1, none⟩ = some (I a) ∧ wx.cell? ⟨w.heap.size + 1, 2, none⟩ = some (I o) ∧ wx.cell? ⟨w.heap.size + 1, 3, none⟩ = some (I n) ∧
   wx.cell? ⟨w.heap.size + 1 + 1, 0, none⟩ = some (I 0) ∧ wx.cell? ⟨w.heap.size + 1 + 1, 1, none⟩ = some (I 0) ∧ wx.heap[w.heap.size + 1 + 1]? = some (.cells #[I 0, I 0] 39) ∧ Ext w wx := by
 have hb : (((w.alloc (.cells #[x] 27)).alloc (.cells #[I k, I a, I o, I n] 34)).alloc (.cells #[I 0, I 0] 39)).heap[w.heap.size + 1 + 1]? = some (.cells #[I 0, I 0] 39) := by
  have := heap_alloc_new ((w.alloc (.cells #[x] 27)).alloc (.cells #[I k, I a, I o, I n] 34)) (.cells #[I 0, I 0] 39)
  simpa using this
 have p0 : (((w.alloc (.cells #[x] 27)).alloc (.cells #[I k, I a, I o, I n] 34)).alloc (.cells #[I 0, I 0] 39)).heap[w.heap.size]? = some (.cells #[x] 27) := by
  rw [heap_alloc_old _ _ (by simp; omega), heap_alloc_old _ _ (by simp)]
  exact heap_alloc_new _ _
 have p1 : (((w.alloc (.cells #[x] 27)).alloc (.cells #[I k, I a, I o, I n] 34)).alloc (.cells #[I 0, I 0] 39)).heap[w.heap.size + 1]? = some (.cells #[I k, I a, I o, I n] 34) := by
  rw [heap_alloc_old _ _ (by simp)]
  have := heap_alloc_new (w.alloc (.cells #[x] 27)) (.cells #[I k, I a, I o, I n] 34)
  simpa using this
 refine ⟨hx.cell (cell_block p0 rfl), hx.cell (cell_block p1 rfl), hx.cell (cell_block p1 rfl), hx.cell (cell_block p1 rfl), hx.cell (cell_block p1 rfl), hx.cell (cell_block hb rfl), hx.cell (cell_block hb rfl), ?_, ((((Ext.refl w).alloc _).alloc _).alloc _).trans hx⟩
 rw [hx.block _ (by simp)]
 exact hb

set_option maxHeartbeats 2000000 in
theorem wDo_none (v : Value) (l : List (Int × Int)) (k a o n : Int) (w : World) (hv : Writes w v l) (hl : Okw l) (hk : k = 2 ∨ k = 3 ∨ k = 4 ∨ k = 6) (ha : ¬ at1 l a < l.length) :
  Calls Tryz.prog 20 #[v, .agg #[I k, I a, I o, I n]] w fun e w' => DoesW w v l ⟨k, a, o, n⟩ e w' ∧ Ext w w' := by
 have hmf := func_mk
 have hl5 := hl.len
 obtain ⟨ao, cap, rfl, g1, g2, g3⟩ := hv.form
 unfold maxLen at g2
 have H3 : Hid _ := g3
 clear g3
 go_enter Tryz.func20, Tryz.ntmps20
 go_wp2_with fail
 refine Calls.exts (rget_any _ l a _ (hv.ext ((((Ext.refl w).alloc _).alloc _).alloc _))) (fun w1 e1 => ?_)
 obtain ⟨s0, q0, q1, q2, q3, x0, x1, hbx, hw1⟩ := rbox w1 e1
 obtain ⟨_, _, f0, f1⟩ := box_of hbx (Ext.refl w1)
 have hv1 := hv.ext hw1
 have hbs : w.heap.size + 1 + 1 < w1.heap.size := (Array.getElem?_eq_some_iff.1 hbx).1
 have hz := isR_none ha
 have hz2 := getR_none ha
 rw [hz, hz2]
 clear hz hz2
 rcases hk with rfl | rfl | rfl | rfl
 ·go_wp2_with fail
  refine Calls.exts (rno_any _ _ _ _ s0 (cell_lt s0)) (fun w2 e2 => ?_)
  obtain ⟨x0, x1, f0, f1⟩ := box_of hbx e2
  have m2 := hw1.trans e2
  go_wp2
  try simp only [Exit.inBlock, Exit.then]
  refine bodyPost_ret (by simp [results, Tryz.results20, go_sem, x0, x1]; rfl) rfl ?_
  exact ⟨doesW_same (r := ⟨6, 0⟩) (by rw [doR_get, if_pos ha]) hv ((m2.setCell (by simp only []; omega) _).setCell (by simp only []; omega) _), (m2.setCell (by simp only []; omega) _).setCell (by simp only []; omega) _⟩
 ·go_wp2_with fail
  refine Calls.exts (rno_any _ _ _ _ s0 (cell_lt s0)) (fun w2 e2 => ?_)
  obtain ⟨x0, x1, f0, f1⟩ := box_of hbx e2
  have m2 := hw1.trans e2
  go_wp2
  try simp only [Exit.inBlock, Exit.then]
  refine bodyPost_ret (by simp [results, Tryz.results20, go_sem, x0, x1]; rfl) rfl ?_
  exact ⟨doesW_same (r := ⟨6, 0⟩) (by rw [doR_drop, if_pos ha]) hv ((m2.setCell (by simp only []; omega) _).setCell (by simp only []; omega) _), (m2.setCell (by simp only []; omega) _).setCell (by simp only []; omega) _⟩
 ·go_wp2_with fail
  refine Calls.exts (rno_any _ _ _ _ s0 (cell_lt s0)) (fun w2 e2 => ?_)
  obtain ⟨x0, x1, f0, f1⟩ := box_of hbx e2
  have m2 := hw1.trans e2
  go_wp2
  try simp only [Exit.inBlock, Exit.then]
  refine bodyPost_ret (by simp [results, Tryz.results20, go_sem, x0, x1]; rfl) rfl ?_
  exact ⟨doesW_same (r := ⟨6, 0⟩) (by rw [doR_add, if_pos ha]) hv ((m2.setCell (by simp only []; omega) _).setCell (by simp only []; omega) _), (m2.setCell (by simp only []; omega) _).setCell (by simp only []; omega) _⟩
 ·go_wp2_with fail
  refine Calls.exts (rno_any _ _ _ _ s0 (cell_lt s0)) (fun w2 e2 => ?_)
  obtain ⟨x0, x1, f0, f1⟩ := box_of hbx e2
  have m2 := hw1.trans e2
  go_wp2
  try simp only [Exit.inBlock, Exit.then]
  refine bodyPost_ret (by simp [results, Tryz.results20, go_sem, x0, x1]; rfl) rfl ?_
  exact ⟨doesW_same (r := ⟨6, 0⟩) (by rw [doR_swap', if_pos ha]) hv ((m2.setCell (by simp only []; omega) _).setCell (by simp only []; omega) _), (m2.setCell (by simp only []; omega) _).setCell (by simp only []; omega) _⟩

end Go.Proofs.YtmfocpmnnbhodadGreat

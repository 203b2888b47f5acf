/- Texts of the proof, merged: N4. -/
import Derived.Test.YtmfocpmnnbhodadGreatKH

namespace Go.Proofs.YtmfocpmnnbhodadGreat
open Go.RowKit Go.Mk
set_option maxRecDepth 100000

set_option maxHeartbeats 400000 in
theorem refClientGo_idle (cl : List Cl) (at_ : Int) (sent : Bool) (gen : Int) (gl : List Rp) (calls box got : Value) (me gen2 : Int) (up : Bool) (w : World) (A : Nat → Prop)
  (hc : Rd A (fun w => RowOf 4 elCl w calls cl) w) (hb : Rd A (fun w => RowOf 1 elBs w box []) w) (hg : Rd A (fun w => RowOf 2 elRp w got gl) w) (h0 : 0 ≤ at_) :
  Keeps Tryz.prog 45 #[.agg #[calls, I at_, .bool sent, I gen, box, got], I me, I gen2, .bool up] w A (fun r w' => Tup3 elCn (goCn ⟨cl, at_, sent, gen, [], gl⟩ me gen2 up).1 (goCn ⟨cl, at_, sent, gen, [], gl⟩ me gen2 up).2.1 (goCn ⟨cl, at_, sent, gen, [], gl⟩ me gen2 up).2.2 r w') := by
 unfold Keeps
 obtain ⟨ca, cc, rfl⟩ := rowOf_slice hc.out
 obtain ⟨ga, gc, rfl⟩ := rowOf_slice hg.out
 have EW := Lib.hid (Ext.refl w)
 obtain ⟨B, hB⟩ := away A w.heap.size 2
 have HK := Lib.hid hB
 clear hB
 have HC := Lib.hid (hc.widen HK.out.1)
 have HB := Lib.hid (hb.widen HK.out.1)
 have HG := Lib.hid (hg.widen HK.out.1)
 clear hc hb hg
 obtain ⟨ba, bc, rfl⟩ := rowOf_slice HB.out.out
 have hX0 : goCn ⟨cl, at_, sent, gen, [], gl⟩ me gen2 up = if (cl.length : Int) ≤ at_ then (⟨cl, at_, sent, gen, [], gl⟩, [], 11) else if ¬ up then (⟨cl, at_, sent, gen, [], gl⟩, [], 10) else if sent ∧ gen = gen2 then (⟨cl, at_, sent, gen, [], gl⟩, [], 12) else (⟨cl, at_, true, gen2, [], gl⟩, reqB ⟨me, at_, cl.getD at_.toNat ⟨0, 0, 0, 0⟩⟩, 0) := rfl
 by_cases hat : (cl.length : Int) ≤ at_
 case pos =>
  rw [hX0, if_pos hat]
  clear hX0
  go_enter Tryz.func45, Tryz.ntmps45
  go_wp2_with ((with_reducible refine zst (L := [44, 41, 31, 100]) ?_ ?_); exact rfl)
  unfold Hid
  refine wpList_boxB rfl 100 (.tmp 0) rfl #[.slice ca cl.length cc, I at_, .bool sent, I gen, .slice ba 0 bc, .slice ga gl.length gc] rfl (fun b0 w1_ M1 => ?_)
  have B_b0 := zmb M1
  replace HC := zme M1 HC
  replace HB := zme M1 HB
  replace HG := zme M1 HG
  replace EW := zet EW M1
  go_wp2_with ((with_reducible refine zst (L := [44, 41, 31, 100]) ?_ ?_); exact rfl)
  unfold Hid
  refine wpList_allocB rfl 100 #[.slice none 0 0, I 0, .bool false, I 0, .slice none 0 0, .slice none 0 0] (by kernel_rfl) (fun b1 w2_ M2 => ?_)
  have D_b0_b1 := zld B_b0 M2
  replace B_b0 := zmo M2 B_b0
  have B_b1 := zmb M2
  replace HC := zme M2 HC
  replace HB := zme M2 HB
  replace HG := zme M2 HG
  replace EW := zet EW M2
  have A_b0 : Hid (b0 = w.heap.size + 0) := by unfold Hid; have q0 := M1.out.at_; have r0 := M1.out.size; omega
  have N_b0 := znb HK A_b0 (by decide)
  have O_b0 := zob A_b0
  have A_b1 : Hid (b1 = w.heap.size + 1) := by unfold Hid; have q0 := M1.out.at_; have r0 := M1.out.size; have q1 := M2.out.at_; have r1 := M2.out.size; omega
  have N_b1 := znb HK A_b1 (by decide)
  have O_b1 := zob A_b1
  have c0 := cell_of (i := 0) B_b0.out rfl
  have c1 := cell_of (i := 1) B_b0.out rfl
  have c2 := cell_of (i := 2) B_b0.out rfl
  have c3 := cell_of (i := 3) B_b0.out rfl
  have c4 := cell_of (i := 4) B_b0.out rfl
  go_wp2_with ((with_reducible refine zst (L := [44, 41, 31, 100]) ?_ ?_); exact rfl)
  unfold Hid
  clear c0 c1 c2 c3 c4
  refine wpList_loadW rfl 100 (.tmp 4) rfl b0 rfl B_b0 Tryz.underlying100 (by kernel_rfl) (fun v69 H_v69 => ?_)
  go_wp2_with ((with_reducible refine zst (L := [44, 41, 31, 100]) ?_ ?_); exact rfl)
  unfold Hid
  refine wpList_storeW rfl 100 (.tmp 8) (.tmp 69) rfl b1 rfl _ (zcv H_v69) B_b1 rfl (by kernel_rfl) rfl (fun w3_ M3 => ?_)
  replace B_b0 := zwl M3 B_b0 D_b0_b1
  replace B_b1 := zwb M3
  replace HC := zwr M3 HC N_b1
  replace HB := zwr M3 HB N_b1
  replace HG := zwr M3 HG N_b1
  replace EW := zwe M3 EW O_b1
  go_wp2
  have z0 := run_box (P := Tryz.prog) 100 B_b1.out Tryz.underlying100 (by kernel_rfl)
  refine bodyPost_ret (by simp [results, Tryz.results45, asAddr, z0]; rfl) rfl ?_
  exact ⟨_, rfl, EW.out, Rd.widen (A := B) (tup3_rd (cn_rd (c := ⟨cl, at_, sent, gen, [], gl⟩) (HC.out) (HB.out) (HG.out)) (Rd.all fun w => bytes_nil w)) (fun k _ h => HK.out.2.2.2 k h)⟩
 rw [hX0, if_neg hat]
 cases up
 case false =>
  rw [if_pos (by simp)]
  clear hX0
  go_enter Tryz.func45, Tryz.ntmps45
  go_wp2_with ((with_reducible refine zst (L := [44, 41, 31, 100]) ?_ ?_); exact rfl)
  unfold Hid
  refine wpList_boxB rfl 100 (.tmp 0) rfl #[.slice ca cl.length cc, I at_, .bool sent, I gen, .slice ba 0 bc, .slice ga gl.length gc] rfl (fun b0 w1_ M1 => ?_)
  have B_b0 := zmb M1
  replace HC := zme M1 HC
  replace HB := zme M1 HB
  replace HG := zme M1 HG
  replace EW := zet EW M1
  go_wp2_with ((with_reducible refine zst (L := [44, 41, 31, 100]) ?_ ?_); exact rfl)
  unfold Hid
  refine wpList_allocB rfl 100 #[.slice none 0 0, I 0, .bool false, I 0, .slice none 0 0, .slice none 0 0] (by kernel_rfl) (fun b1 w2_ M2 => ?_)
  have D_b0_b1 := zld B_b0 M2
  replace B_b0 := zmo M2 B_b0
  have B_b1 := zmb M2
  replace HC := zme M2 HC
  replace HB := zme M2 HB
  replace HG := zme M2 HG
  replace EW := zet EW M2
  have A_b0 : Hid (b0 = w.heap.size + 0) := by unfold Hid; have q0 := M1.out.at_; have r0 := M1.out.size; omega
  have N_b0 := znb HK A_b0 (by decide)
  have O_b0 := zob A_b0
  have A_b1 : Hid (b1 = w.heap.size + 1) := by unfold Hid; have q0 := M1.out.at_; have r0 := M1.out.size; have q1 := M2.out.at_; have r1 := M2.out.size; omega
  have N_b1 := znb HK A_b1 (by decide)
  have O_b1 := zob A_b1
  have c0 := cell_of (i := 0) B_b0.out rfl
  have c1 := cell_of (i := 1) B_b0.out rfl
  have c2 := cell_of (i := 2) B_b0.out rfl
  have c3 := cell_of (i := 3) B_b0.out rfl
  have c4 := cell_of (i := 4) B_b0.out rfl
  go_wp2_with ((with_reducible refine zst (L := [44, 41, 31, 100]) ?_ ?_); exact rfl)
  unfold Hid
  clear c0 c1 c2 c3 c4
  refine wpList_loadW rfl 100 (.tmp 4) rfl b0 rfl B_b0 Tryz.underlying100 (by kernel_rfl) (fun v72 H_v72 => ?_)
  go_wp2_with ((with_reducible refine zst (L := [44, 41, 31, 100]) ?_ ?_); exact rfl)
  unfold Hid
  refine wpList_storeW rfl 100 (.tmp 8) (.tmp 72) rfl b1 rfl _ (zcv H_v72) B_b1 rfl (by kernel_rfl) rfl (fun w3_ M3 => ?_)
  replace B_b0 := zwl M3 B_b0 D_b0_b1
  replace B_b1 := zwb M3
  replace HC := zwr M3 HC N_b1
  replace HB := zwr M3 HB N_b1
  replace HG := zwr M3 HG N_b1
  replace EW := zwe M3 EW O_b1
  go_wp2
  have z0 := run_box (P := Tryz.prog) 100 B_b1.out Tryz.underlying100 (by kernel_rfl)
  refine bodyPost_ret (by simp [results, Tryz.results45, asAddr, z0]; rfl) rfl ?_
  exact ⟨_, rfl, EW.out, Rd.widen (A := B) (tup3_rd (cn_rd (c := ⟨cl, at_, sent, gen, [], gl⟩) (HC.out) (HB.out) (HG.out)) (Rd.all fun w => bytes_nil w)) (fun k _ h => HK.out.2.2.2 k h)⟩
 rw [if_neg (by simp)]
 by_cases hsg : sent = true ∧ gen = gen2
 case pos =>
  rw [if_pos hsg]
  obtain ⟨rfl, rfl⟩ := hsg
  clear hX0
  go_enter Tryz.func45, Tryz.ntmps45
  go_wp2_with ((with_reducible refine zst (L := [44, 41, 31, 100]) ?_ ?_); exact rfl)
  unfold Hid
  refine wpList_boxB rfl 100 (.tmp 0) rfl #[.slice ca cl.length cc, I at_, .bool true, I gen, .slice ba 0 bc, .slice ga gl.length gc] rfl (fun b0 w1_ M1 => ?_)
  have B_b0 := zmb M1
  replace HC := zme M1 HC
  replace HB := zme M1 HB
  replace HG := zme M1 HG
  replace EW := zet EW M1
  go_wp2_with ((with_reducible refine zst (L := [44, 41, 31, 100]) ?_ ?_); exact rfl)
  unfold Hid
  refine wpList_allocB rfl 100 #[.slice none 0 0, I 0, .bool false, I 0, .slice none 0 0, .slice none 0 0] (by kernel_rfl) (fun b1 w2_ M2 => ?_)
  have D_b0_b1 := zld B_b0 M2
  replace B_b0 := zmo M2 B_b0
  have B_b1 := zmb M2
  replace HC := zme M2 HC
  replace HB := zme M2 HB
  replace HG := zme M2 HG
  replace EW := zet EW M2
  have A_b0 : Hid (b0 = w.heap.size + 0) := by unfold Hid; have q0 := M1.out.at_; have r0 := M1.out.size; omega
  have N_b0 := znb HK A_b0 (by decide)
  have O_b0 := zob A_b0
  have A_b1 : Hid (b1 = w.heap.size + 1) := by unfold Hid; have q0 := M1.out.at_; have r0 := M1.out.size; have q1 := M2.out.at_; have r1 := M2.out.size; omega
  have N_b1 := znb HK A_b1 (by decide)
  have O_b1 := zob A_b1
  have c0 := cell_of (i := 0) B_b0.out rfl
  have c1 := cell_of (i := 1) B_b0.out rfl
  have c2 := cell_of (i := 2) B_b0.out rfl
  have c3 := cell_of (i := 3) B_b0.out rfl
  have c4 := cell_of (i := 4) B_b0.out rfl
  go_wp2_with ((with_reducible refine zst (L := [44, 41, 31, 100]) ?_ ?_); exact rfl)
  unfold Hid
  clear c0 c1 c2 c3 c4
  refine wpList_loadW rfl 100 (.tmp 4) rfl b0 rfl B_b0 Tryz.underlying100 (by kernel_rfl) (fun v81 H_v81 => ?_)
  go_wp2_with ((with_reducible refine zst (L := [44, 41, 31, 100]) ?_ ?_); exact rfl)
  unfold Hid
  refine wpList_storeW rfl 100 (.tmp 8) (.tmp 81) rfl b1 rfl _ (zcv H_v81) B_b1 rfl (by kernel_rfl) rfl (fun w3_ M3 => ?_)
  replace B_b0 := zwl M3 B_b0 D_b0_b1
  replace B_b1 := zwb M3
  replace HC := zwr M3 HC N_b1
  replace HB := zwr M3 HB N_b1
  replace HG := zwr M3 HG N_b1
  replace EW := zwe M3 EW O_b1
  go_wp2
  have z0 := run_box (P := Tryz.prog) 100 B_b1.out Tryz.underlying100 (by kernel_rfl)
  refine bodyPost_ret (by simp [results, Tryz.results45, asAddr, z0]; rfl) rfl ?_
  exact ⟨_, rfl, EW.out, Rd.widen (A := B) (tup3_rd (cn_rd (c := ⟨cl, at_, true, gen, [], gl⟩) (HC.out) (HB.out) (HG.out)) (Rd.all fun w => bytes_nil w)) (fun k _ h => HK.out.2.2.2 k h)⟩
 rw [if_neg hsg]
 clear hX0
 have hsel : (sent = false ∨ (sent = true ∧ (gen == gen2) = false)) := by
  cases sent
  ·exact .inl rfl
  ·exact .inr ⟨rfl, by simpa using hsg⟩
 clear hsg
 obtain ⟨cx, hcx⟩ : ∃ x, cl[at_.toNat]? = some x := ⟨_, List.getElem?_eq_getElem (by omega)⟩
 have hgd : cl.getD at_.toNat ⟨0, 0, 0, 0⟩ = cx := by simp [hcx]
 rw [hgd]
 clear hgd
 obtain ⟨ao, cap, e1, -, -, -, hform⟩ := HC.out.out.form (by decide)
 simp only [Value.slice.injEq, true_and] at e1
 obtain ⟨rfl, rfl⟩ := e1
 obtain ⟨xk, xa, xo, xn⟩ := cx
 obtain ⟨cb, co, c4, rfl, -, hc4, hcell⟩ := hform _ _ hcx
 have hc4 : c4 = [I xk, I xa, I xo, I xn] := hc4
 subst hc4
 have HCELL := Lib.hid hcell
 have hlt : at_ < (cl.length : Int) := by omega
 clear hcell hform hcx hat
 obtain ⟨j, rfl⟩ : ∃ j : Nat, at_ = (j : Int) := ⟨at_.toNat, by omega⟩
 simp only [Int.toNat_natCast] at HCELL
 rcases hsel with rfl | ⟨rfl, hgn⟩
 ·go_enter Tryz.func45, Tryz.ntmps45
  go_wp2_with ((with_reducible refine zst (L := [44, 41, 31, 100]) ?_ ?_); exact rfl)
  unfold Hid
  refine wpList_boxB rfl 100 (.tmp 0) rfl #[.slice (some ⟨cb, co, none⟩) cl.length cc, I j, .bool false, I gen, .slice ba 0 bc, .slice ga gl.length gc] rfl (fun b0 w1_ M1 => ?_)
  have B_b0 := zmb M1
  replace HC := zme M1 HC
  replace HB := zme M1 HB
  replace HG := zme M1 HG
  replace EW := zet EW M1
  go_wp2_with ((with_reducible refine zst (L := [44, 41, 31, 100]) ?_ ?_); exact rfl)
  unfold Hid
  refine wpList_allocB rfl 100 #[.slice none 0 0, I 0, .bool false, I 0, .slice none 0 0, .slice none 0 0] (by kernel_rfl) (fun b1 w2_ M2 => ?_)
  have D_b0_b1 := zld B_b0 M2
  replace B_b0 := zmo M2 B_b0
  have B_b1 := zmb M2
  replace HC := zme M2 HC
  replace HB := zme M2 HB
  replace HG := zme M2 HG
  replace EW := zet EW M2
  have A_b0 : Hid (b0 = w.heap.size + 0) := by unfold Hid; have q0 := M1.out.at_; have r0 := M1.out.size; omega
  have N_b0 := znb HK A_b0 (by decide)
  have O_b0 := zob A_b0
  have A_b1 : Hid (b1 = w.heap.size + 1) := by unfold Hid; have q0 := M1.out.at_; have r0 := M1.out.size; have q1 := M2.out.at_; have r1 := M2.out.size; omega
  have N_b1 := znb HK A_b1 (by decide)
  have O_b1 := zob A_b1
  have c0 := cell_of (i := 0) B_b0.out rfl
  have c1 := cell_of (i := 1) B_b0.out rfl
  have c2 := cell_of (i := 2) B_b0.out rfl
  have c3 := cell_of (i := 3) B_b0.out rfl
  have c4 := cell_of (i := 4) B_b0.out rfl
  go_wp2_with ((with_reducible refine zst (L := [44, 41, 31, 100]) ?_ ?_); exact rfl)
  unfold Hid
  clear c0 c1 c2 c3 c4
  refine wpList_storeP rfl 4 (.tmp 83) (.const (.bool true)) rfl b0 2 rfl [.bool true] (rfl) B_b0 rfl (by kernel_rfl) rfl [.slice (some ⟨cb, co, none⟩) cl.length cc, I j, .bool true, I gen, .slice ba 0 bc, .slice ga gl.length gc] rfl (fun w3_ M3 => ?_)
  replace B_b0 := zwb M3
  replace B_b1 := zwg M3 B_b1 D_b0_b1
  replace HC := zwr M3 HC N_b0
  replace HB := zwr M3 HB N_b0
  replace HG := zwr M3 HG N_b0
  replace EW := zwe M3 EW O_b0
  go_wp2_with ((with_reducible refine zst (L := [44, 41, 31, 100]) ?_ ?_); exact rfl)
  unfold Hid
  refine wpList_storeP rfl 3 (.tmp 84) (.tmp 82) rfl b0 3 rfl [I gen2] (rfl) B_b0 rfl (by kernel_rfl) rfl [.slice (some ⟨cb, co, none⟩) cl.length cc, I j, .bool true, I gen2, .slice ba 0 bc, .slice ga gl.length gc] rfl (fun w4_ M4 => ?_)
  replace B_b0 := zwb M4
  replace B_b1 := zwg M4 B_b1 D_b0_b1
  replace HC := zwr M4 HC N_b0
  replace HB := zwr M4 HB N_b0
  replace HG := zwr M4 HG N_b0
  replace EW := zwe M4 EW O_b0
  go_wp2_with fail
  have hbx := B_b0.out
  have x0 := cell_of (i := 0) hbx rfl
  have x1 := cell_of (i := 1) hbx rfl
  have y0 := EW.out.cell (HCELL.out 0 _ rfl)
  have y1 := EW.out.cell (HCELL.out 1 _ rfl)
  have y2 := EW.out.cell (HCELL.out 2 _ rfl)
  have y3 := EW.out.cell (HCELL.out 3 _ rfl)
  simp only [Nat.add_zero, ← Nat.add_assoc] at y0 y1 y2 y3
  refine wp_region_mono_tail 12 [none, none, none, none, none, none, none, none, none, none, none, some (.inr fun v wx => BytesAt w4_.heap.size wx v (reqB ⟨me, j, ⟨xk, xa, xo, xn⟩⟩))] (by kernel_rfl) (by kernel_rfl) ?_ ?_
  ·exact ⟨trivial, trivial, trivial, trivial, trivial, trivial, trivial, trivial, trivial, trivial, trivial, monoBytesAt _ _, trivial⟩
  refine wpM_q (.agg #[.slice (some ⟨cb, co, none⟩) cl.length cc, I j, .bool true, I gen2, .slice ba 0 bc, .slice ga gl.length gc]) rfl (fun w' hw' => run_loadM 100 (.tmp 4) rfl b0 0 rfl (blk_ext hbx hw') [.slice (some ⟨cb, co, none⟩) cl.length cc, I j, .bool true, I gen2, .slice ba 0 bc, .slice ga gl.length gc] rfl Tryz.underlying100 (by kernel_rfl)) ?_
  refine wpM_norm (fun K hK => ?_); go_simp; refine hK _ ?_; clear hK K
  iterate 1 (refine wpM_p (fun K hK => ?_); go_simp; first | refine hK _ ?_ | refine ⟨(fun h => by cases h), hK _ ?_⟩; clear hK K)
  iterate 1 (refine wpM_p (fun K hK => ?_); go_simp; first | refine hK _ ?_ | refine ⟨(fun h => by cases h), hK _ ?_⟩; clear hK K)
  refine wpM_q (I j) rfl (fun w' hw' => by have q0 := hw'.cell x1; go_simp) ?_
  refine wpM_norm (fun K hK => ?_); go_simp; refine hK _ ?_; clear hK K
  iterate 1 (refine wpM_p (fun K hK => ?_); go_simp; first | refine hK _ ?_ | refine ⟨(fun h => by cases h), hK _ ?_⟩; clear hK K)
  refine wpM_q (.slice (some ⟨cb, co, none⟩) cl.length cc) rfl (fun w' hw' => by have q0 := hw'.cell x0; go_simp) ?_
  refine wpM_norm (fun K hK => ?_); go_simp; refine hK _ ?_; clear hK K
  iterate 1 (refine wpM_p (fun K hK => ?_); go_simp; first | refine hK _ ?_ | refine ⟨(fun h => by cases h), hK _ ?_⟩; clear hK K)
  refine wpM_q (I j) rfl (fun w' hw' => by have q0 := hw'.cell x1; go_simp) ?_
  refine wpM_norm (fun K hK => ?_); go_simp; refine hK _ ?_; clear hK K
  iterate 1 (refine wpM_p (fun K hK => ?_); go_simp; first | refine hK _ ?_ | refine ⟨(fun h => by cases h), hK _ ?_⟩; clear hK K)
  refine wpM_q (.agg #[I xk, I xa, I xo, I xn]) rfl (fun w' hw' => by have q0 := hw'.cell y0; have q1 := hw'.cell y1; have q2 := hw'.cell y2; have q3 := hw'.cell y3; go_simp) ?_
  refine wpM_norm (fun K hK => ?_); go_simp; refine hK _ ?_; clear hK K
  iterate 1 (refine wpM_p (fun K hK => ?_); go_simp; first | refine hK _ ?_ | refine ⟨(fun h => by cases h), hK _ ?_⟩; clear hK K)
  refine wpM_l _ rfl (fun w' hw' hk => ?_) (fun v96 => ?_)
  ·have hg := RequestBytes_own me j xk xa xo xn w'
   have hle := hw'.size
   clear hk
   unfold makes
   go_simp
   exact ⟨Ext.refl _, hg.mono fun _ _ _ ⟨b, o, n, c, e, hb, h⟩ => ⟨b, o, n, c, e, Nat.le_trans hle hb, h⟩⟩
  refine wpM_norm (fun K hK => ?_); go_simp; refine hK _ ?_; clear hK K
  refine wpM_nil ?_
  intro w9 e9 hX
  have hby : BytesAt w4_.heap.size w9 v96 (reqB ⟨me, j, ⟨xk, xa, xo, xn⟩⟩) := hX 96
  clear hX x0 x1 y0 y1 y2 y3 hbx
  have hsz : w.heap.size + 2 ≤ w4_.heap.size := by have q := (Array.getElem?_eq_some_iff.1 B_b1.out).1; have q2 := A_b1.out; omega
  have HBY := Lib.hid (hby.rd.widen (B := B) (fun k _ h => HK.out.2.1 k (by omega)))
  clear hby hsz
  replace B_b0 := zbx B_b0 e9
  replace B_b1 := zbx B_b1 e9
  replace HC := zrx HC e9
  replace HB := zrx HB e9
  replace HG := zrx HG e9
  replace EW := Lib.hid (EW.out.trans e9)
  show wpList _ _ _ [_, _, _] _ _
  go_wp2_with ((with_reducible refine zst (L := [44, 41, 31, 100]) ?_ ?_); exact rfl)
  unfold Hid
  refine wpList_storeW rfl 100 (.tmp 8) (.tmp 85) rfl b1 rfl [.slice (some ⟨cb, co, none⟩) cl.length cc, I j, .bool true, I gen2, .slice ba 0 bc, .slice ga gl.length gc] (rfl) B_b1 rfl (by kernel_rfl) rfl (fun w5_ M5 => ?_)
  replace B_b0 := zwl M5 B_b0 D_b0_b1
  replace B_b1 := zwb M5
  replace HC := zwr M5 HC N_b1
  replace HB := zwr M5 HB N_b1
  replace HG := zwr M5 HG N_b1
  replace HBY := zwr M5 HBY N_b1
  replace EW := zwe M5 EW O_b1
  go_wp2
  have z0 := run_box (P := Tryz.prog) 100 B_b1.out Tryz.underlying100 (by kernel_rfl)
  refine bodyPost_ret (by simp [results, Tryz.results45, asAddr, z0]; rfl) rfl ?_
  exact ⟨_, rfl, EW.out, Rd.widen (A := B) (tup3_rd (cn_rd (c := ⟨cl, j, true, gen2, [], gl⟩) HC.out HB.out HG.out) HBY.out) (fun k _ h => HK.out.2.2.2 k h)⟩
 ·go_enter Tryz.func45, Tryz.ntmps45
  go_wp2_with ((with_reducible refine zst (L := [44, 41, 31, 100]) ?_ ?_); exact rfl)
  unfold Hid
  refine wpList_boxB rfl 100 (.tmp 0) rfl #[.slice (some ⟨cb, co, none⟩) cl.length cc, I j, .bool true, I gen, .slice ba 0 bc, .slice ga gl.length gc] rfl (fun b0 w1_ M1 => ?_)
  have B_b0 := zmb M1
  replace HC := zme M1 HC
  replace HB := zme M1 HB
  replace HG := zme M1 HG
  replace EW := zet EW M1
  go_wp2_with ((with_reducible refine zst (L := [44, 41, 31, 100]) ?_ ?_); exact rfl)
  unfold Hid
  refine wpList_allocB rfl 100 #[.slice none 0 0, I 0, .bool false, I 0, .slice none 0 0, .slice none 0 0] (by kernel_rfl) (fun b1 w2_ M2 => ?_)
  have D_b0_b1 := zld B_b0 M2
  replace B_b0 := zmo M2 B_b0
  have B_b1 := zmb M2
  replace HC := zme M2 HC
  replace HB := zme M2 HB
  replace HG := zme M2 HG
  replace EW := zet EW M2
  have A_b0 : Hid (b0 = w.heap.size + 0) := by unfold Hid; have q0 := M1.out.at_; have r0 := M1.out.size; omega
  have N_b0 := znb HK A_b0 (by decide)
  have O_b0 := zob A_b0
  have A_b1 : Hid (b1 = w.heap.size + 1) := by unfold Hid; have q0 := M1.out.at_; have r0 := M1.out.size; have q1 := M2.out.at_; have r1 := M2.out.size; omega
  have N_b1 := znb HK A_b1 (by decide)
  have O_b1 := zob A_b1
  have c0 := cell_of (i := 0) B_b0.out rfl
  have c1 := cell_of (i := 1) B_b0.out rfl
  have c2 := cell_of (i := 2) B_b0.out rfl
  have c3 := cell_of (i := 3) B_b0.out rfl
  have c4 := cell_of (i := 4) B_b0.out rfl
  go_wp2_with ((with_reducible refine zst (L := [44, 41, 31, 100]) ?_ ?_); exact rfl)
  unfold Hid
  clear c0 c1 c2 c3 c4
  refine wpList_storeP rfl 4 (.tmp 83) (.const (.bool true)) rfl b0 2 rfl [.bool true] (rfl) B_b0 rfl (by kernel_rfl) rfl [.slice (some ⟨cb, co, none⟩) cl.length cc, I j, .bool true, I gen, .slice ba 0 bc, .slice ga gl.length gc] rfl (fun w3_ M3 => ?_)
  replace B_b0 := zwb M3
  replace B_b1 := zwg M3 B_b1 D_b0_b1
  replace HC := zwr M3 HC N_b0
  replace HB := zwr M3 HB N_b0
  replace HG := zwr M3 HG N_b0
  replace EW := zwe M3 EW O_b0
  go_wp2_with ((with_reducible refine zst (L := [44, 41, 31, 100]) ?_ ?_); exact rfl)
  unfold Hid
  refine wpList_storeP rfl 3 (.tmp 84) (.tmp 82) rfl b0 3 rfl [I gen2] (rfl) B_b0 rfl (by kernel_rfl) rfl [.slice (some ⟨cb, co, none⟩) cl.length cc, I j, .bool true, I gen2, .slice ba 0 bc, .slice ga gl.length gc] rfl (fun w4_ M4 => ?_)
  replace B_b0 := zwb M4
  replace B_b1 := zwg M4 B_b1 D_b0_b1
  replace HC := zwr M4 HC N_b0
  replace HB := zwr M4 HB N_b0
  replace HG := zwr M4 HG N_b0
  replace EW := zwe M4 EW O_b0
  go_wp2_with fail
  have hbx := B_b0.out
  have x0 := cell_of (i := 0) hbx rfl
  have x1 := cell_of (i := 1) hbx rfl
  have y0 := EW.out.cell (HCELL.out 0 _ rfl)
  have y1 := EW.out.cell (HCELL.out 1 _ rfl)
  have y2 := EW.out.cell (HCELL.out 2 _ rfl)
  have y3 := EW.out.cell (HCELL.out 3 _ rfl)
  simp only [Nat.add_zero, ← Nat.add_assoc] at y0 y1 y2 y3
  refine wp_region_mono_tail 12 [none, none, none, none, none, none, none, none, none, none, none, some (.inr fun v wx => BytesAt w4_.heap.size wx v (reqB ⟨me, j, ⟨xk, xa, xo, xn⟩⟩))] (by kernel_rfl) (by kernel_rfl) ?_ ?_
  ·exact ⟨trivial, trivial, trivial, trivial, trivial, trivial, trivial, trivial, trivial, trivial, trivial, monoBytesAt _ _, trivial⟩
  refine wpM_q (.agg #[.slice (some ⟨cb, co, none⟩) cl.length cc, I j, .bool true, I gen2, .slice ba 0 bc, .slice ga gl.length gc]) rfl (fun w' hw' => run_loadM 100 (.tmp 4) rfl b0 0 rfl (blk_ext hbx hw') [.slice (some ⟨cb, co, none⟩) cl.length cc, I j, .bool true, I gen2, .slice ba 0 bc, .slice ga gl.length gc] rfl Tryz.underlying100 (by kernel_rfl)) ?_
  refine wpM_norm (fun K hK => ?_); go_simp; refine hK _ ?_; clear hK K
  iterate 1 (refine wpM_p (fun K hK => ?_); go_simp; first | refine hK _ ?_ | refine ⟨(fun h => by cases h), hK _ ?_⟩; clear hK K)
  iterate 1 (refine wpM_p (fun K hK => ?_); go_simp; first | refine hK _ ?_ | refine ⟨(fun h => by cases h), hK _ ?_⟩; clear hK K)
  refine wpM_q (I j) rfl (fun w' hw' => by have q0 := hw'.cell x1; go_simp) ?_
  refine wpM_norm (fun K hK => ?_); go_simp; refine hK _ ?_; clear hK K
  iterate 1 (refine wpM_p (fun K hK => ?_); go_simp; first | refine hK _ ?_ | refine ⟨(fun h => by cases h), hK _ ?_⟩; clear hK K)
  refine wpM_q (.slice (some ⟨cb, co, none⟩) cl.length cc) rfl (fun w' hw' => by have q0 := hw'.cell x0; go_simp) ?_
  refine wpM_norm (fun K hK => ?_); go_simp; refine hK _ ?_; clear hK K
  iterate 1 (refine wpM_p (fun K hK => ?_); go_simp; first | refine hK _ ?_ | refine ⟨(fun h => by cases h), hK _ ?_⟩; clear hK K)
  refine wpM_q (I j) rfl (fun w' hw' => by have q0 := hw'.cell x1; go_simp) ?_
  refine wpM_norm (fun K hK => ?_); go_simp; refine hK _ ?_; clear hK K
  iterate 1 (refine wpM_p (fun K hK => ?_); go_simp; first | refine hK _ ?_ | refine ⟨(fun h => by cases h), hK _ ?_⟩; clear hK K)
  refine wpM_q (.agg #[I xk, I xa, I xo, I xn]) rfl (fun w' hw' => by have q0 := hw'.cell y0; have q1 := hw'.cell y1; have q2 := hw'.cell y2; have q3 := hw'.cell y3; go_simp) ?_
  refine wpM_norm (fun K hK => ?_); go_simp; refine hK _ ?_; clear hK K
  iterate 1 (refine wpM_p (fun K hK => ?_); go_simp; first | refine hK _ ?_ | refine ⟨(fun h => by cases h), hK _ ?_⟩; clear hK K)
  refine wpM_l _ rfl (fun w' hw' hk => ?_) (fun v96 => ?_)
  ·have hg := RequestBytes_own me j xk xa xo xn w'
   have hle := hw'.size
   clear hk
   unfold makes
   go_simp
   exact ⟨Ext.refl _, hg.mono fun _ _ _ ⟨b, o, n, c, e, hb, h⟩ => ⟨b, o, n, c, e, Nat.le_trans hle hb, h⟩⟩
  refine wpM_norm (fun K hK => ?_); go_simp; refine hK _ ?_; clear hK K
  refine wpM_nil ?_
  intro w9 e9 hX
  have hby : BytesAt w4_.heap.size w9 v96 (reqB ⟨me, j, ⟨xk, xa, xo, xn⟩⟩) := hX 96
  clear hX x0 x1 y0 y1 y2 y3 hbx
  have hsz : w.heap.size + 2 ≤ w4_.heap.size := by have q := (Array.getElem?_eq_some_iff.1 B_b1.out).1; have q2 := A_b1.out; omega
  have HBY := Lib.hid (hby.rd.widen (B := B) (fun k _ h => HK.out.2.1 k (by omega)))
  clear hby hsz
  replace B_b0 := zbx B_b0 e9
  replace B_b1 := zbx B_b1 e9
  replace HC := zrx HC e9
  replace HB := zrx HB e9
  replace HG := zrx HG e9
  replace EW := Lib.hid (EW.out.trans e9)
  show wpList _ _ _ [_, _, _] _ _
  go_wp2_with ((with_reducible refine zst (L := [44, 41, 31, 100]) ?_ ?_); exact rfl)
  unfold Hid
  refine wpList_storeW rfl 100 (.tmp 8) (.tmp 85) rfl b1 rfl [.slice (some ⟨cb, co, none⟩) cl.length cc, I j, .bool true, I gen2, .slice ba 0 bc, .slice ga gl.length gc] (rfl) B_b1 rfl (by kernel_rfl) rfl (fun w5_ M5 => ?_)
  replace B_b0 := zwl M5 B_b0 D_b0_b1
  replace B_b1 := zwb M5
  replace HC := zwr M5 HC N_b1
  replace HB := zwr M5 HB N_b1
  replace HG := zwr M5 HG N_b1
  replace HBY := zwr M5 HBY N_b1
  replace EW := zwe M5 EW O_b1
  go_wp2
  have z0 := run_box (P := Tryz.prog) 100 B_b1.out Tryz.underlying100 (by kernel_rfl)
  refine bodyPost_ret (by simp [results, Tryz.results45, asAddr, z0]; rfl) rfl ?_
  exact ⟨_, rfl, EW.out, Rd.widen (A := B) (tup3_rd (cn_rd (c := ⟨cl, j, true, gen2, [], gl⟩) HC.out HB.out HG.out) HBY.out) (fun k _ h => HK.out.2.2.2 k h)⟩

end Go.Proofs.YtmfocpmnnbhodadGreat

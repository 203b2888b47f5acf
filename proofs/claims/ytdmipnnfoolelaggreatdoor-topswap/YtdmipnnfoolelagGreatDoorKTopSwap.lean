/- However two names change what they have (up to 6 times each of two clients), whatever steps there were, of the landed code: there are these two, with what they had at first; numbers beyond 1000, and more steps than may be, are let by. The library's variables are as the card ties them. -/
import Derived.Test.YtdmipnnfoolelagGreatDoorKTL
import Derived.Test.YtdmipnnfoolelagGreatDoorKTM
import Derived.Test.YtdmipnnfoolelagGreatDoorKTK
import Derived.Test.YtdmipnnfoolelagGreatDoorKT9

set_option maxRecDepth 100000
namespace Go.Proofs.YtdmipnnfoolelagGreatDoor
open Go.ChangeShapes Go.WideShapes Go.ChangeAt Go.ChangeMaps Go.RowKit Go.Mk

theorem zjP (os : Os) (started : os.Started) (H : Type) (enc : TypeId × Value -> H) (F : Stop.Interp) :
  ReturnsInHanded {} Tryz.checked os 4 .any ((OpenSpec.ofChange Rows.topSwapSpec).preRow enc Tryz.prog Tryz.f4 Rows.topSwapRow.domain false Rows.topSwapRow.laid) (((OpenSpec.ofChange Rows.topSwapSpec).at F).post enc Tryz.prog Tryz.f4 false true false false):=by
 refine returnsInHanded_of_row (C:=Tryz.checked) (s:=OpenSpec.ofChange Rows.topSwapSpec) Tryz.own started (by kernel_rfl) Tryz.func4
  (witness_row_atRef (enc:=enc) (C:=Tryz.checked) false (World.laidAll Tryz.prog os listed) #[.int .i64 0,.int .i64 0,.int .i64 0,.slice none 0 0] (World.laidAll_os _ _ _) (by kernel_rfl) (by kernel_rfl) (by kernel_rfl)
   (OpenSpec.preRow_of_B rfl 8 (by kernel_rfl) (by kernel_rfl) (zfm os _))) ?_
 intro W base args ds gs before hval0 hW _ _ _ hL _ _
 have hval : ∀ (j : Nat) t v,Tryz.f4.params[j]? = some t -> args[j]? = some v -> Value.okWide Tryz.prog W .any base t v:=hval0
 have hW':=hW
 obtain ⟨p,q,hA0,hV,rfl,_,_⟩:=hW
 have hA : DataW.TrodAll enc Tryz.prog W 0 (fun _=>true) true Tryz.f4.params.toList args.toList ds p:=hA0
 rw [Tryz.params4] at hA hval
 obtain ⟨v0,vs0,d0,ds0,p0,q0,hargs,rfl,rfl,h0,r_0⟩:=trodAll_cons hA
 obtain ⟨v1,vs1,d1,ds1,p1,q1,rfl,rfl,rfl,h1,r_1⟩:=trodAll_cons r_0
 obtain ⟨v2,vs2,d2,ds2,p2,q2,rfl,rfl,rfl,h2,r_2⟩:=trodAll_cons r_1
 obtain ⟨v3,vs3,d3,ds3,p3,q3,rfl,rfl,rfl,h3,r_3⟩:=trodAll_cons r_2
 obtain ⟨rfl,rfl,rfl⟩:=trodAll_nil r_3
 obtain rfl : args = #[v0,v1,v2,v3]:=by cases args; simp_all
 obtain ⟨rfl,rfl⟩:=trodVars_none hV
 obtain ⟨x0,rfl,rfl,rfl,wx0⟩:=open_int zu3 (hval 0 3 v0 rfl rfl) h0
 obtain ⟨x1,rfl,rfl,rfl,wx1⟩:=open_int zu3 (hval 1 3 v1 rfl rfl) h1
 obtain ⟨x2,rfl,rfl,rfl,wx2⟩:=open_int zu3 (hval 2 3 v2 rfl rfl) h2
 obtain ⟨x3,hx3,hs3⟩:=zeJ zqQ zo5 Tryz.cellsStep zu3 zu3 rfl rfl Tryz.cellsInt Tryz.cellsInt (hval 3 22 v3 rfl rfl) h3
 clear hA0 hval0
 simp only [List.append_nil] at hW'
 have hlt : ∀ x ∈ p3,x.block < W.heap.size:=fun x hx=>by simpa using hW'.lt x (by simpa using hx)
 refine (zm3 v3 x0 x1 x2 x3 W (ziF hL) hx3).to fun r W' hb hr=>?_
 subst hr
 exact ⟨_,rfl,_,_,_,[],_,[],hW',trodAll_mk1 (shut_bool zu4 _),(trodAll_cons_mk (shut_int zu3 wx0) (trodAll_cons_mk (shut_int zu3 wx1) (trodAll_cons_mk (shut_int zu3 wx2) (trodAll_cons_mk (Below.trod Tryz.laidOut (by kernel_rfl) (of_decide_eq_true (by kernel_rfl)) h3 hb (fun x hx=>hlt x (by simp [hx]))) trodAll_mk0)))),rfl,Below.frame hb _,fun h=>by cases h⟩

theorem zlk : Rows.TopSwapSaid :=
 OpenClaim.holds_of_cond 4 Tryz.f4 rfl rfl rfl rfl rfl rfl rfl ⟨rfl,rfl,rfl,rfl,rfl⟩ rfl rfl rfl rfl rfl (by kernel_rfl) Tryz.func4 (by kernel_rfl)
  (of_decide_eq_true (by kernel_rfl)) (by unfold Func.isWrapper; first | (rw [if_pos (by decide +kernel)]; kernel_rfl) | (rw [if_neg (by decide +kernel)]; exact ⟨rfl,rfl⟩))
  (fun os started H enc _ F=>by rw [OpenClaim.pre_eq_preRow]; exact zjP os started H enc F)

theorem zkd (f : FuncId) (fn : Func) (hf : Tryz.pinned.checked.prog.funcNamed "mendkernel/mktop.TopSwap" = some f) (hfn : Tryz.pinned.checked.prog.funcs[f]? = some fn) :
  true = Tryz.pinned.checked.prog.looks [] /\ ∀ (j : Nat) t,fn.params[j]? = some t -> Tryz.pinned.checked.prog.wantsStandIn t = false:=by
 obtain rfl : f = 4:=Option.some.inj ((show Tryz.prog.funcNamed "mendkernel/mktop.TopSwap" = some 4 by kernel_rfl).symm.trans hf) |>.symm
 obtain rfl : fn = Tryz.f4:=(Option.some.inj (Tryz.func4.symm.trans hfn)).symm
 refine ⟨by kernel_rfl,fun j t ht=>?_⟩
 rw [Tryz.params4] at ht
 have hm : t ∈ [3,3,3,22]:=by simpa using Array.mem_of_getElem? ht
 have hall : ([3,3,3,22].all fun u=>!Tryz.prog.wantsStandIn u) = true:=by kernel_rfl
 exact (show Tryz.prog.wantsStandIn t = false by simpa using List.all_eq_true.1 hall t hm)

theorem topSwap_holds : Rows.TopSwapCardSaid :=
 Claim7.holds_tied_plain_at .later [] _ _ _ _ zlk (fun _ h=>by cases h) (by kernel_rfl) (fun _ h=>by cases h) topSwap_row_tie rfl ⟨rfl,rfl⟩ (by kernel_rfl) rfl zkd (by kernel_rfl)

end Go.Proofs.YtdmipnnfoolelagGreatDoor

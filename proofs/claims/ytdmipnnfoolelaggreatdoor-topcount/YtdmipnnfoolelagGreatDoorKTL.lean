/- zbb of the proof, merged: F5. -/
import Derived.Test.YtdmipnnfoolelagGreatDoorKTJ
import Derived.Test.YtdmipnnfoolelagGreatDoorCards
import Derived.Test.YtdmipnnfoolelagGreatDoorTie
import Derived.Test.YtdmipnnfoolelagGreatDoorKTK
import Derived.ProofKit
import Derived.OpenShut
import Derived.Lay
import Derived.Stop.LaidErr
import Derived.Deep.DeepHandedRow
import Derived.Deep.DeepWitnessRowRef
set_option maxRecDepth 100000

namespace Go.Proofs.YtdmipnnfoolelagGreatDoor
open Go.ChangeShapes Go.WideShapes Go.ChangeAt Go.RowKit Go.Mk

def listed:List (String×DataW Unit):=[("math/bits.deBruijn32tab",Rows.laid_math_bits_deBruijn32tab),("math/bits.deBruijn64tab",Rows.laid_math_bits_deBruijn64tab),("internal/strconv.uint64pow10",Rows.laid_internal_strconv_uint64pow10),("unicode/utf8.acceptRanges",Rows.laid_unicode_utf8_acceptRanges),("strconv.ErrRange",Rows.laid_strconv_ErrRange),("strconv.ErrSyntax",Rows.laid_strconv_ErrSyntax),("unicode/utf8.first",Rows.laid_unicode_utf8_first)]

theorem Tryz.gPow:Tryz.prog.globalNamed "internal/strconv.uint64pow10"=some 1:=by kernel_rfl
theorem Tryz.gPowType:(Tryz.prog.globals[1]?).map (·.type)=some 167:=by kernel_rfl
theorem Tryz.cellsPow:Tryz.prog.cellsOf 167=20:=by kernel_rfl
theorem Tryz.cellsU64:Tryz.prog.cellsOf 145=1:=by kernel_rfl
theorem Tryz.gRange:Tryz.prog.globalNamed "strconv.ErrRange"=some 5:=by kernel_rfl
theorem Tryz.gRangeType:(Tryz.prog.globals[5]?).map (·.type)=some 74:=by kernel_rfl
theorem Tryz.gSynt:Tryz.prog.globalNamed "strconv.ErrSyntax"=some 4:=by kernel_rfl
theorem Tryz.gSyntType:(Tryz.prog.globals[4]?).map (·.type)=some 74:=by kernel_rfl
theorem Tryz.cellsStr:Tryz.prog.cellsOf 9=1:=by kernel_rfl
theorem Tryz.cellsErrStr:Tryz.prog.cellsOf 219=1:=by kernel_rfl
theorem Tryz.star:"*"++"errors.errorString"="*errors.errorString":=by decide
theorem Tryz.rowErr (u:TypeId) (h:Tryz.prog.typeName? 3 u=some "*errors.errorString"):u=217 :=
 typeName_ptr_named (nm:="errors.errorString") (by rw [Tryz.star]; kernel_rfl) (by kernel_rfl) (by decide) u (by rw [Tryz.star]; exact h)

theorem zuz:(Rows.laid_internal_strconv_uint64pow10:DataW Unit)=Lib.tabData .u64 Lib.pow10Tab:=by kernel_rfl

theorem ziF {W:World} (h:laidMetH Tryz.prog listed W):zen W:=by
 rw [MakeChecks.laidMetH_plain _ _ _ (by kernel_rfl)] at h
 have h2:laidMet Tryz.prog (([("math/bits.deBruijn32tab",Rows.laid_math_bits_deBruijn32tab),("math/bits.deBruijn64tab",Rows.laid_math_bits_deBruijn64tab),("internal/strconv.uint64pow10",Rows.laid_internal_strconv_uint64pow10),("unicode/utf8.acceptRanges",Rows.laid_unicode_utf8_acceptRanges),("strconv.ErrRange",Rows.laid_strconv_ErrRange),("strconv.ErrSyntax",Rows.laid_strconv_ErrSyntax),("unicode/utf8.first",Rows.laid_unicode_utf8_first)]).drop 2) W:=h.tail.tail
 have h3:laidMet Tryz.prog (("internal/strconv.uint64pow10",Lib.tabData .u64 Lib.pow10Tab)::([("math/bits.deBruijn32tab",Rows.laid_math_bits_deBruijn32tab),("math/bits.deBruijn64tab",Rows.laid_math_bits_deBruijn64tab),("internal/strconv.uint64pow10",Rows.laid_internal_strconv_uint64pow10),("unicode/utf8.acceptRanges",Rows.laid_unicode_utf8_acceptRanges),("strconv.ErrRange",Rows.laid_strconv_ErrRange),("strconv.ErrSyntax",Rows.laid_strconv_ErrSyntax),("unicode/utf8.first",Rows.laid_unicode_utf8_first)]).drop 3) W:=by
  rw [<- zuz]
  exact h2
 have h4:laidMet Tryz.prog (([("math/bits.deBruijn32tab",Rows.laid_math_bits_deBruijn32tab),("math/bits.deBruijn64tab",Rows.laid_math_bits_deBruijn64tab),("internal/strconv.uint64pow10",Rows.laid_internal_strconv_uint64pow10),("unicode/utf8.acceptRanges",Rows.laid_unicode_utf8_acceptRanges),("strconv.ErrRange",Rows.laid_strconv_ErrRange),("strconv.ErrSyntax",Rows.laid_strconv_ErrSyntax),("unicode/utf8.first",Rows.laid_unicode_utf8_first)]).drop 4) W:=h2.tail.tail
 refine ⟨Lib.tabIs_of_head Tryz.gPow Tryz.gPowType zuU zuN Tryz.cellsU64 Tryz.cellsPow h3,?_,?_⟩
 ·obtain ⟨a1,s1,hv1,-,-,-⟩:=laid_sentinel h4.tail Tryz.gSynt Tryz.gSyntType zu0 Tryz.rowErr ztP ztR rfl rfl zu9 Tryz.cellsErrStr Tryz.cellsStr
  exact ⟨_,_,hv1⟩
 ·obtain ⟨a0,s0,hv0,-,-,-⟩:=laid_sentinel h4 Tryz.gRange Tryz.gRangeType zu0 Tryz.rowErr ztP ztR rfl rfl zu9 Tryz.cellsErrStr Tryz.cellsStr
  exact ⟨_,_,hv0⟩

theorem zfm (os:Os) (args:Array Value):laidMetH Tryz.prog listed ((World.laidAll Tryz.prog os listed).forCall (fun _ _=>0) ⟨#[],args,[]⟩).memory:=by
 rw [MakeChecks.laidMetH_plain _ _ _ (by kernel_rfl)]
 exact laidMet_laidAll _ (by kernel_rfl) (by kernel_rfl)

end Go.Proofs.YtdmipnnfoolelagGreatDoor

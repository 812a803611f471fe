/- What the functions compute. -/
import Derived.Test.YtnkflplbeagljacCheckOfRangeEng1
set_option linter.unusedVariables false
set_option linter.unusedSimpArgs false
namespace Go.Vs

noncomputable def M.spec_reader_pick (r_0 : (List UInt8) × Int) (n_1 : Int) : Option (Int × ((List UInt8) × Int)) :=
  Option.bind ((bif decide (n_1 < 1) then
  some true
 else
  some ((r_0.1.length : Int) == 0))) fun o5 =>
  (bif o5 then
  some (0, (r_0.1, w64 (r_0.2 + 1)))
 else
  (bif decide ((w64 ((w64 (r_0.2 + 1)) - 1)) < (r_0.1.length : Int)) then
  (gidx r_0.1 (w64 ((w64 (r_0.2 + 1)) - 1))).bind fun x12 =>
  (grem (w64 (x12.toNat : Int)) n_1).bind fun q17 =>
  some (q17, (r_0.1, w64 (r_0.2 + 1)))
 else
  (grem (w64 ((w64 (r_0.2 + 1)) - 1)) (r_0.1.length : Int)).bind fun q19 =>
  (gidx r_0.1 q19).bind fun x21 =>
  (grem (w64 ((w64 ((w64 ((w64 (r_0.2 + 1)) - 1)) * 7)) + 3)) (r_0.1.length : Int)).bind fun q26 =>
  (gidx r_0.1 q26).bind fun x28 =>
  (gquo (w64 ((w64 (r_0.2 + 1)) - 1)) (r_0.1.length : Int)).bind fun q33 =>
  (grem (gxor (w64 ((w64 ((w64 ((w64 ((w64 (x21.toNat : Int)) * 131)) + (w64 ((w64 (x28.toNat : Int)) * 1117)))) + (w64 ((w64 ((w64 (r_0.2 + 1)) - 1)) * 29)))) + (w64 (q33 * 53)))) (w64 ((w64 ((w64 ((w64 ((w64 ((w64 (x21.toNat : Int)) * 131)) + (w64 ((w64 (x28.toNat : Int)) * 1117)))) + (w64 ((w64 ((w64 (r_0.2 + 1)) - 1)) * 29)))) + (w64 (q33 * 53)))).tdiv 64))) n_1).bind fun q36 =>
  some (q36, (r_0.1, w64 (r_0.2 + 1)))))

noncomputable def M.spec_reader_one (r_0 : (List UInt8) × Int) (list_1 : List Int) : Option (Int × ((List UInt8) × Int)) :=
  (M.spec_reader_pick (r_0.1, r_0.2) (list_1.length : Int)).bind fun r1 =>
  (gidx list_1 r1.1).bind fun x9 =>
  some (x9, (r1.2.1, r1.2.2))

noncomputable def M.spec_newReader (code_0 : List UInt8) : Option (((List UInt8) × Int)) :=
  Option.bind ((bif decide (2000 < (code_0.length : Int)) then
  (gslice code_0 0 2000).bind fun xs3 =>
  some xs3
 else
  some code_0)) fun o1 =>
  some (o1, 0)

end Go.Vs

namespace Go.Vs

end Go.Vs

namespace Go.Vs

end Go.Vs

namespace Go.Vs

end Go.Vs

namespace Go.Vs

end Go.Vs

namespace Go.Vs

end Go.Vs

namespace Go.Vs

end Go.Vs

namespace Go.Vs

end Go.Vs

namespace Go.Vs

end Go.Vs

namespace Go.Vs

end Go.Vs

namespace Go.Vs

end Go.Vs

namespace Go.Vs

end Go.Vs

namespace Go.Vs

end Go.Vs

namespace Go.Vs

end Go.Vs

namespace Go.Vs

end Go.Vs

namespace Go.Vs

end Go.Vs

namespace Go.Vs

end Go.Vs

namespace Go.Vs

end Go.Vs

namespace Go.Vs

end Go.Vs

namespace Go.Vs

end Go.Vs

namespace Go.Vs

end Go.Vs

namespace Go.Vs

end Go.Vs

namespace Go.Vs

end Go.Vs

namespace Go.Vs

noncomputable def M.spec_DrawCheckOf (code_0 : List UInt8) : Option ((List UInt8)) :=
  (M.spec_newReader code_0).bind fun r1 =>
  (M.spec_reader_one (r1.1, r1.2) ([3, 8, 1, 0, 200, 201, 20] : List Int)).bind fun r14 =>
  Option.bind (loopM (fun (s21 : ((List UInt8) × (Int)) × (List UInt8) × (Int)) => (bif decide (0 < s21.2.2) then
  (M.spec_reader_pick (s21.1.1, s21.1.2) 256).bind fun r28 =>
  (gapp s21.2.1 ([gb8 r28.1] : List UInt8)).bind fun xs36 =>
  some (.inl ((r28.2.1, r28.2.2), xs36, w64 (s21.2.2 - 1)))
 else
  some (.inr s21.2.1))) ((r14.2.1, r14.2.2), ([] : List UInt8), r14.1)) fun o20 =>
  some o20

noncomputable def M.spec_checkOf (b_0 : List UInt8) : Option Int :=
  Option.bind (loopM (fun (s2 : (Int) × (Int)) => (bif decide (s2.2 < (b_0.length : Int)) then
  (gidx b_0 s2.2).bind fun x5 =>
  some (.inl ((w64 ((w64 (31 * s2.1)) + (w64 (x5.toNat : Int)))).tmod 251, w64 (s2.2 + 1)))
 else
  some (.inr s2.1))) (1, 0)) fun o1 =>
  some o1

noncomputable def M.spec_CheckOf (b_0 : List UInt8) : Option Int :=
  (bif decide (200 < (b_0.length : Int)) then
  some (-1)
 else
  (M.spec_checkOf b_0).bind fun r2 =>
  some r2)

end Go.Vs

namespace Go.Vs

end Go.Vs

namespace Go.Vs

end Go.Vs

namespace Go.Vs

end Go.Vs

namespace Go.Vs

end Go.Vs

namespace Go.Vs

end Go.Vs

namespace Go.Vs

noncomputable def M.impl_CheckOf (b_0 : List UInt8) : Option Int :=
  (bif decide (200 < (b_0.length : Int)) then
  some (-1)
 else
  Option.bind (loopM (fun (s3 : (Int) × (Int)) => (bif decide (s3.2 < (b_0.length : Int)) then
  (gidx b_0 s3.2).bind fun x6 =>
  some (.inl ((w64 ((w64 (31 * s3.1)) + (w64 (x6.toNat : Int)))).tmod 251, w64 (s3.2 + 1)))
 else
  some (.inr s3.1))) (1, 0)) fun o2 =>
  some o2)

end Go.Vs

namespace Go.Vs

noncomputable def M.laws_FnCheckOfRange (code_0 : List UInt8) : Option Bool :=
  (bif decide (1048576 < (code_0.length : Int)) then
  some true
 else
  (M.spec_DrawCheckOf code_0).bind fun r2 =>
  (M.impl_CheckOf r2).bind fun r8 =>
  Option.bind ((M.spec_CheckOf r2).bind fun r13 =>
  (bif r8 != r13 then
  some true
 else
  some (decide (r8 < 0)))) fun o12 =>
  (bif o12 then
  (M.spec_CheckOf r2).bind fun r22 =>
  some (r8 == r22)
 else
  (bif decide (r8 < 251) then
  some (decide ((r2.length : Int) ≤ 200))
 else
  some false)))

end Go.Vs

namespace Go.Vs

end Go.Vs

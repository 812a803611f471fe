/- What the functions compute. -/
import Derived.Test.YtnkflplbeagljacExactCheckOfEng1
set_option linter.unusedVariables false
set_option linter.unusedSimpArgs false
namespace Go.Vs

end Go.Vs

namespace Go.Vs

end Go.Vs

namespace Go.Vs

end Go.Vs

namespace Go.Vs

end Go.Vs

namespace Go.Vs

end Go.Vs

namespace Go.Vs

end Go.Vs

namespace Go.Vs

end Go.Vs

namespace Go.Vs

end Go.Vs

namespace Go.Vs

end Go.Vs

namespace Go.Vs

end Go.Vs

namespace Go.Vs

end Go.Vs

namespace Go.Vs

end Go.Vs

namespace Go.Vs

end Go.Vs

namespace Go.Vs

end Go.Vs

namespace Go.Vs

end Go.Vs

namespace Go.Vs

end Go.Vs

namespace Go.Vs

end Go.Vs

namespace Go.Vs

end Go.Vs

namespace Go.Vs

end Go.Vs

namespace Go.Vs

end Go.Vs

namespace Go.Vs

end Go.Vs

namespace Go.Vs

end Go.Vs

namespace Go.Vs

end Go.Vs

namespace Go.Vs

noncomputable def M.spec_checkOf (b_0 : List UInt8) : Option Int :=
  Option.bind (loopM (fun (s2 : (Int) × (Int)) => (bif decide (s2.2 < (b_0.length : Int)) then
  (gidx b_0 s2.2).bind fun x5 =>
  some (.inl ((w64 ((w64 (31 * s2.1)) + (w64 (x5.toNat : Int)))).tmod 251, w64 (s2.2 + 1)))
 else
  some (.inr s2.1))) (1, 0)) fun o1 =>
  some o1

noncomputable def M.spec_CheckOf (b_0 : List UInt8) : Option Int :=
  (bif decide (200 < (b_0.length : Int)) then
  some (-1)
 else
  (M.spec_checkOf b_0).bind fun r2 =>
  some r2)

noncomputable def M.laws_toByteS (a_0 : List UInt8) : Option ((List UInt8)) :=
  (gmake (a_0.length : Int) ((0 : UInt8) : UInt8)).bind fun xs1 =>
  Option.bind (loopM (fun (s8 : (List UInt8) × (Int)) => (bif decide (s8.2 < (a_0.length : Int)) then
  (gidx a_0 s8.2).bind fun x13 =>
  (gidx s8.1 s8.2).bind fun x19 =>
  some (.inl ((s8.1.set s8.2.toNat x13), w64 (s8.2 + 1)))
 else
  some (.inr s8.1))) (xs1, 0)) fun o7 =>
  some o7

noncomputable def M.laws_eqByteS (a_0 : List UInt8) (b_1 : List UInt8) : Option Bool :=
  (bif (a_0.length : Int) != (b_1.length : Int) then
  some false
 else
  Option.bind (loopM (fun (s3 : (Int)) => (bif decide (s3 < (a_0.length : Int)) then
  (gidx a_0 s3).bind fun x6 =>
  (gidx b_1 s3).bind fun x12 =>
  (bif (x6.toNat : Int) != (x12.toNat : Int) then
  some (.inr (.inr false))
 else
  some (.inl (w64 (s3 + 1))))
 else
  some (.inr (.inl ())))) 0) (selim (fun t21 => some true)
   (fun t23 => some t23)))

noncomputable def M.laws_equalBytes (a_0 : List UInt8) (b_1 : List UInt8) : Option Bool :=
  (bif (a_0.length : Int) != (b_1.length : Int) then
  some false
 else
  Option.bind (loopM (fun (s3 : (Int)) => (bif decide (s3 < (a_0.length : Int)) then
  (gidx a_0 s3).bind fun x6 =>
  (gidx b_1 s3).bind fun x12 =>
  (bif (x6.toNat : Int) != (x12.toNat : Int) then
  some (.inr (.inr false))
 else
  some (.inl (w64 (s3 + 1))))
 else
  some (.inr (.inl ())))) 0) (selim (fun t21 => some true)
   (fun t23 => some t23)))

end Go.Vs

namespace Go.Vs

end Go.Vs

namespace Go.Vs

end Go.Vs

namespace Go.Vs

end Go.Vs

namespace Go.Vs

end Go.Vs

namespace Go.Vs

end Go.Vs

namespace Go.Vs

noncomputable def M.impl_CheckOf (b_0 : List UInt8) : Option Int :=
  (bif decide (200 < (b_0.length : Int)) then
  some (-1)
 else
  Option.bind (loopM (fun (s3 : (Int) × (Int)) => (bif decide (s3.2 < (b_0.length : Int)) then
  (gidx b_0 s3.2).bind fun x6 =>
  some (.inl ((w64 ((w64 (31 * s3.1)) + (w64 (x6.toNat : Int)))).tmod 251, w64 (s3.2 + 1)))
 else
  some (.inr s3.1))) (1, 0)) fun o2 =>
  some o2)

end Go.Vs

namespace Go.Vs

noncomputable def M.laws_FnExactCheckOf (aB_0 : List UInt8) : Option Bool :=
  (bif decide (1048576 < (aB_0.length : Int)) then
  some true
 else
  (M.laws_toByteS aB_0).bind fun r2 =>
  (M.spec_CheckOf r2).bind fun r11 =>
  (M.laws_toByteS aB_0).bind fun r15 =>
  (M.impl_CheckOf r15).bind fun r22 =>
  (bif r22 != r11 then
  some false
 else
  (M.laws_toByteS aB_0).bind fun r27 =>
  (M.laws_eqByteS r15 r27).bind fun r38 =>
  (bif !r38 then
  some false
 else
  some true)))

end Go.Vs

namespace Go.Vs

end Go.Vs

/- What the functions compute. -/
import Derived.Test.YtcgkbgidfilodaaLibM3
set_option linter.unusedVariables false
set_option linter.unusedSimpArgs false
namespace Go.Vs

noncomputable def M.laws_FnDistanceOne (code_0 : List UInt8) : Option Bool :=
  (bif decide (1048576 < (code_0.length : Int)) then
  some true
 else
  (M.spec_DrawDistance code_0).bind fun r2 =>
  (M.impl_Distance r2.1 r2.2.1 r2.2.2).bind fun r21 =>
  Option.bind ((M.spec_Distance r2.1 r2.2.1 r2.2.2).bind fun r41 =>
  (bif r21 != r41 then
  some true
 else
  some (decide (r21 < 0)))) fun o32 =>
  (bif o32 then
  (M.spec_Distance r2.1 r2.2.1 r2.2.2).bind fun r69 =>
  some (r21 == r69)
 else
  (gapp ([] : List Int) r2.2.1).bind fun xs80 =>
  (gidx r2.2.2 ((code_0.length : Int).tmod 4)).bind fun x93 =>
  (gidx xs80 ((code_0.length : Int).tmod 4)).bind fun x98 =>
  (M.impl_Distance 1 r2.2.1 (xs80.set ((code_0.length : Int).tmod 4).toNat x93)).bind fun r116 =>
  (M.impl_Distance 2 r2.2.1 (xs80.set ((code_0.length : Int).tmod 4).toNat x93)).bind fun r135 =>
  (bif r116 == r135 then
  (M.impl_Distance 3 r2.2.1 (xs80.set ((code_0.length : Int).tmod 4).toNat x93)).bind fun r155 =>
  (bif (w64 (r116 * r116)) == r155 then
  (M.impl_Distance 4 r2.2.1 (xs80.set ((code_0.length : Int).tmod 4).toNat x93)).bind fun r177 =>
  some (r177 == (min r116 1))
 else
  some false)
 else
  some false)))

end Go.Vs

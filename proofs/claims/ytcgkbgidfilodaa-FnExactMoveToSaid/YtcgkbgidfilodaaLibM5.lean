/- What the functions compute. -/
import Derived.Test.YtcgkbgidfilodaaLibM4
set_option linter.unusedVariables false
set_option linter.unusedSimpArgs false
namespace Go.Vs

noncomputable def M.laws_FnMeanOfOne (code_0 : List UInt8) : Option Bool :=
  (bif decide (1048576 < (code_0.length : Int)) then
  some true
 else
  (M.spec_DrawMeanOf code_0).bind fun r2 =>
  (M.impl_MeanOf r2).bind fun r13 =>
  Option.bind ((M.spec_MeanOf r2).bind fun r32 =>
  (M.laws_equalInts r13 r32).bind fun r56 =>
  (bif !r56 then
  some true
 else
  some ((r13.length : Int) == 0))) fun o27 =>
  (bif o27 then
  (M.spec_MeanOf r2).bind fun r79 =>
  (M.laws_equalInts r13 r79).bind fun r98 =>
  some r98
 else
  (gslice r2 0 1).bind fun xs114 =>
  (M.impl_MeanOf xs114).bind fun r120 =>
  (gidx r2 0).bind fun x125 =>
  (M.laws_equalInts r120 x125).bind fun r135 =>
  (bif r135 then
  (gidx r2 0).bind fun x138 =>
  (gidx r2 0).bind fun x148 =>
  (gidx r2 0).bind fun x158 =>
  (M.impl_MeanOf ([x138, x148, x158] : List (List Int))).bind fun r170 =>
  (gidx r2 0).bind fun x175 =>
  (M.laws_equalInts r170 x175).bind fun r186 =>
  some r186
 else
  some false)))

end Go.Vs

/- What the functions compute. -/
import Derived.Test.YtjcaokajkkkniacExactBitsApartEng1
import Derived.Test.YtjcaokajkkkniacExactBitsApartSrt1
set_option linter.unusedVariables false
set_option linter.unusedSimpArgs false
namespace Go.Vs

noncomputable def M.spec_inRange (n_0 : Int) (low_1 : Int) (high_2 : Int) : Option Bool :=
  (bif decide (low_1 ≤ n_0) then
  some (decide (n_0 ≤ high_2))
 else
  some false)

end Go.Vs

namespace Go.Vs

end Go.Vs

namespace Go.Vs

end Go.Vs

namespace Go.Vs

end Go.Vs

namespace Go.Vs

end Go.Vs

namespace Go.Vs

end Go.Vs

namespace Go.Vs

end Go.Vs

namespace Go.Vs

end Go.Vs

namespace Go.Vs

end Go.Vs

namespace Go.Vs

end Go.Vs

namespace Go.Vs

end Go.Vs

namespace Go.Vs

end Go.Vs

namespace Go.Vs

end Go.Vs

namespace Go.Vs

end Go.Vs

namespace Go.Vs

end Go.Vs

namespace Go.Vs

end Go.Vs

namespace Go.Vs

end Go.Vs

namespace Go.Vs

end Go.Vs

namespace Go.Vs

noncomputable def M.spec_bitsApart (a_0 : Int) (b_1 : Int) : Option Int :=
  Option.bind (loopM (fun (s2 : (Int) × (Int)) => (bif decide (0 < s2.2) then
  some (.inl (w64 (s2.1 + (s2.2.tmod 2)), w64 (s2.2.tdiv 2)))
 else
  some (.inr s2.1))) (0, gxor a_0 b_1)) fun o1 =>
  some o1

end Go.Vs

namespace Go.Vs

noncomputable def M.impl_validHash (hash_0 : Int) : Option Bool :=
  (bif decide (0 ≤ hash_0) then
  some (decide (hash_0 ≤ 63))
 else
  some false)

noncomputable def M.math_bits_OnesCount32 (x_0 : Int) : Option Int :=
  (gsidx [0, 1, 1, 2, 1, 2, 2, 3, 1, 2, 2, 3, 2, 3, 3, 4, 1, 2, 2, 3, 2, 3, 3, 4, 2, 3, 3, 4, 3, 4, 4, 5, 1, 2, 2, 3, 2, 3, 3, 4, 2, 3, 3, 4, 3, 4, 4, 5, 2, 3, 3, 4, 3, 4, 4, 5, 3, 4, 4, 5, 4, 5, 5, 6, 1, 2, 2, 3, 2, 3, 3, 4, 2, 3, 3, 4, 3, 4, 4, 5, 2, 3, 3, 4, 3, 4, 4, 5, 3, 4, 4, 5, 4, 5, 5, 6, 2, 3, 3, 4, 3, 4, 4, 5, 3, 4, 4, 5, 4, 5, 5, 6, 3, 4, 4, 5, 4, 5, 5, 6, 4, 5, 5, 6, 5, 6, 6, 7, 1, 2, 2, 3, 2, 3, 3, 4, 2, 3, 3, 4, 3, 4, 4, 5, 2, 3, 3, 4, 3, 4, 4, 5, 3, 4, 4, 5, 4, 5, 5, 6, 2, 3, 3, 4, 3, 4, 4, 5, 3, 4, 4, 5, 4, 5, 5, 6, 3, 4, 4, 5, 4, 5, 5, 6, 4, 5, 5, 6, 5, 6, 6, 7, 2, 3, 3, 4, 3, 4, 4, 5, 3, 4, 4, 5, 4, 5, 5, 6, 3, 4, 4, 5, 4, 5, 5, 6, 4, 5, 5, 6, 5, 6, 6, 7, 3, 4, 4, 5, 4, 5, 5, 6, 4, 5, 5, 6, 5, 6, 6, 7, 4, 5, 5, 6, 5, 6, 6, 7, 5, 6, 6, 7, 6, 7, 7, 8] (gshr .u32 x_0 24)).bind fun x1 =>
  (gsidx [0, 1, 1, 2, 1, 2, 2, 3, 1, 2, 2, 3, 2, 3, 3, 4, 1, 2, 2, 3, 2, 3, 3, 4, 2, 3, 3, 4, 3, 4, 4, 5, 1, 2, 2, 3, 2, 3, 3, 4, 2, 3, 3, 4, 3, 4, 4, 5, 2, 3, 3, 4, 3, 4, 4, 5, 3, 4, 4, 5, 4, 5, 5, 6, 1, 2, 2, 3, 2, 3, 3, 4, 2, 3, 3, 4, 3, 4, 4, 5, 2, 3, 3, 4, 3, 4, 4, 5, 3, 4, 4, 5, 4, 5, 5, 6, 2, 3, 3, 4, 3, 4, 4, 5, 3, 4, 4, 5, 4, 5, 5, 6, 3, 4, 4, 5, 4, 5, 5, 6, 4, 5, 5, 6, 5, 6, 6, 7, 1, 2, 2, 3, 2, 3, 3, 4, 2, 3, 3, 4, 3, 4, 4, 5, 2, 3, 3, 4, 3, 4, 4, 5, 3, 4, 4, 5, 4, 5, 5, 6, 2, 3, 3, 4, 3, 4, 4, 5, 3, 4, 4, 5, 4, 5, 5, 6, 3, 4, 4, 5, 4, 5, 5, 6, 4, 5, 5, 6, 5, 6, 6, 7, 2, 3, 3, 4, 3, 4, 4, 5, 3, 4, 4, 5, 4, 5, 5, 6, 3, 4, 4, 5, 4, 5, 5, 6, 4, 5, 5, 6, 5, 6, 6, 7, 3, 4, 4, 5, 4, 5, 5, 6, 4, 5, 5, 6, 5, 6, 6, 7, 4, 5, 5, 6, 5, 6, 6, 7, 5, 6, 6, 7, 6, 7, 7, 8] (gandk .u32 (gshr .u32 x_0 16) 255)).bind fun x3 =>
  (gsidx [0, 1, 1, 2, 1, 2, 2, 3, 1, 2, 2, 3, 2, 3, 3, 4, 1, 2, 2, 3, 2, 3, 3, 4, 2, 3, 3, 4, 3, 4, 4, 5, 1, 2, 2, 3, 2, 3, 3, 4, 2, 3, 3, 4, 3, 4, 4, 5, 2, 3, 3, 4, 3, 4, 4, 5, 3, 4, 4, 5, 4, 5, 5, 6, 1, 2, 2, 3, 2, 3, 3, 4, 2, 3, 3, 4, 3, 4, 4, 5, 2, 3, 3, 4, 3, 4, 4, 5, 3, 4, 4, 5, 4, 5, 5, 6, 2, 3, 3, 4, 3, 4, 4, 5, 3, 4, 4, 5, 4, 5, 5, 6, 3, 4, 4, 5, 4, 5, 5, 6, 4, 5, 5, 6, 5, 6, 6, 7, 1, 2, 2, 3, 2, 3, 3, 4, 2, 3, 3, 4, 3, 4, 4, 5, 2, 3, 3, 4, 3, 4, 4, 5, 3, 4, 4, 5, 4, 5, 5, 6, 2, 3, 3, 4, 3, 4, 4, 5, 3, 4, 4, 5, 4, 5, 5, 6, 3, 4, 4, 5, 4, 5, 5, 6, 4, 5, 5, 6, 5, 6, 6, 7, 2, 3, 3, 4, 3, 4, 4, 5, 3, 4, 4, 5, 4, 5, 5, 6, 3, 4, 4, 5, 4, 5, 5, 6, 4, 5, 5, 6, 5, 6, 6, 7, 3, 4, 4, 5, 4, 5, 5, 6, 4, 5, 5, 6, 5, 6, 6, 7, 4, 5, 5, 6, 5, 6, 6, 7, 5, 6, 6, 7, 6, 7, 7, 8] (gandk .u32 (gshr .u32 x_0 8) 255)).bind fun x5 =>
  (gsidx [0, 1, 1, 2, 1, 2, 2, 3, 1, 2, 2, 3, 2, 3, 3, 4, 1, 2, 2, 3, 2, 3, 3, 4, 2, 3, 3, 4, 3, 4, 4, 5, 1, 2, 2, 3, 2, 3, 3, 4, 2, 3, 3, 4, 3, 4, 4, 5, 2, 3, 3, 4, 3, 4, 4, 5, 3, 4, 4, 5, 4, 5, 5, 6, 1, 2, 2, 3, 2, 3, 3, 4, 2, 3, 3, 4, 3, 4, 4, 5, 2, 3, 3, 4, 3, 4, 4, 5, 3, 4, 4, 5, 4, 5, 5, 6, 2, 3, 3, 4, 3, 4, 4, 5, 3, 4, 4, 5, 4, 5, 5, 6, 3, 4, 4, 5, 4, 5, 5, 6, 4, 5, 5, 6, 5, 6, 6, 7, 1, 2, 2, 3, 2, 3, 3, 4, 2, 3, 3, 4, 3, 4, 4, 5, 2, 3, 3, 4, 3, 4, 4, 5, 3, 4, 4, 5, 4, 5, 5, 6, 2, 3, 3, 4, 3, 4, 4, 5, 3, 4, 4, 5, 4, 5, 5, 6, 3, 4, 4, 5, 4, 5, 5, 6, 4, 5, 5, 6, 5, 6, 6, 7, 2, 3, 3, 4, 3, 4, 4, 5, 3, 4, 4, 5, 4, 5, 5, 6, 3, 4, 4, 5, 4, 5, 5, 6, 4, 5, 5, 6, 5, 6, 6, 7, 3, 4, 4, 5, 4, 5, 5, 6, 4, 5, 5, 6, 5, 6, 6, 7, 4, 5, 5, 6, 5, 6, 6, 7, 5, 6, 6, 7, 6, 7, 7, 8] (gandk .u32 x_0 255)).bind fun x7 =>
  some (wk .i64 (wk .u8 ((wk .u8 ((wk .u8 (x1 + x3)) + x5)) + x7)))

noncomputable def M.math_bits_OnesCount64 (x_0 : Int) : Option Int :=
  some (gand (wk .i64 (wk .u64 ((wk .u64 ((wk .u64 ((gandk .u64 (wk .u64 ((gshr .u64 (wk .u64 ((gandk .u64 (gshr .u64 (wk .u64 ((gandk .u64 (gshr .u64 x_0 1) 6148914691236517205) + (gandk .u64 x_0 6148914691236517205))) 2) 3689348814741910323) + (gandk .u64 (wk .u64 ((gandk .u64 (gshr .u64 x_0 1) 6148914691236517205) + (gandk .u64 x_0 6148914691236517205))) 3689348814741910323))) 4) + (wk .u64 ((gandk .u64 (gshr .u64 (wk .u64 ((gandk .u64 (gshr .u64 x_0 1) 6148914691236517205) + (gandk .u64 x_0 6148914691236517205))) 2) 3689348814741910323) + (gandk .u64 (wk .u64 ((gandk .u64 (gshr .u64 x_0 1) 6148914691236517205) + (gandk .u64 x_0 6148914691236517205))) 3689348814741910323))))) 1085102592571150095) + (gshr .u64 (gandk .u64 (wk .u64 ((gshr .u64 (wk .u64 ((gandk .u64 (gshr .u64 (wk .u64 ((gandk .u64 (gshr .u64 x_0 1) 6148914691236517205) + (gandk .u64 x_0 6148914691236517205))) 2) 3689348814741910323) + (gandk .u64 (wk .u64 ((gandk .u64 (gshr .u64 x_0 1) 6148914691236517205) + (gandk .u64 x_0 6148914691236517205))) 3689348814741910323))) 4) + (wk .u64 ((gandk .u64 (gshr .u64 (wk .u64 ((gandk .u64 (gshr .u64 x_0 1) 6148914691236517205) + (gandk .u64 x_0 6148914691236517205))) 2) 3689348814741910323) + (gandk .u64 (wk .u64 ((gandk .u64 (gshr .u64 x_0 1) 6148914691236517205) + (gandk .u64 x_0 6148914691236517205))) 3689348814741910323))))) 1085102592571150095) 8))) + (gshr .u64 (wk .u64 ((gandk .u64 (wk .u64 ((gshr .u64 (wk .u64 ((gandk .u64 (gshr .u64 (wk .u64 ((gandk .u64 (gshr .u64 x_0 1) 6148914691236517205) + (gandk .u64 x_0 6148914691236517205))) 2) 3689348814741910323) + (gandk .u64 (wk .u64 ((gandk .u64 (gshr .u64 x_0 1) 6148914691236517205) + (gandk .u64 x_0 6148914691236517205))) 3689348814741910323))) 4) + (wk .u64 ((gandk .u64 (gshr .u64 (wk .u64 ((gandk .u64 (gshr .u64 x_0 1) 6148914691236517205) + (gandk .u64 x_0 6148914691236517205))) 2) 3689348814741910323) + (gandk .u64 (wk .u64 ((gandk .u64 (gshr .u64 x_0 1) 6148914691236517205) + (gandk .u64 x_0 6148914691236517205))) 3689348814741910323))))) 1085102592571150095) + (gshr .u64 (gandk .u64 (wk .u64 ((gshr .u64 (wk .u64 ((gandk .u64 (gshr .u64 (wk .u64 ((gandk .u64 (gshr .u64 x_0 1) 6148914691236517205) + (gandk .u64 x_0 6148914691236517205))) 2) 3689348814741910323) + (gandk .u64 (wk .u64 ((gandk .u64 (gshr .u64 x_0 1) 6148914691236517205) + (gandk .u64 x_0 6148914691236517205))) 3689348814741910323))) 4) + (wk .u64 ((gandk .u64 (gshr .u64 (wk .u64 ((gandk .u64 (gshr .u64 x_0 1) 6148914691236517205) + (gandk .u64 x_0 6148914691236517205))) 2) 3689348814741910323) + (gandk .u64 (wk .u64 ((gandk .u64 (gshr .u64 x_0 1) 6148914691236517205) + (gandk .u64 x_0 6148914691236517205))) 3689348814741910323))))) 1085102592571150095) 8))) 16))) + (gshr .u64 (wk .u64 ((wk .u64 ((gandk .u64 (wk .u64 ((gshr .u64 (wk .u64 ((gandk .u64 (gshr .u64 (wk .u64 ((gandk .u64 (gshr .u64 x_0 1) 6148914691236517205) + (gandk .u64 x_0 6148914691236517205))) 2) 3689348814741910323) + (gandk .u64 (wk .u64 ((gandk .u64 (gshr .u64 x_0 1) 6148914691236517205) + (gandk .u64 x_0 6148914691236517205))) 3689348814741910323))) 4) + (wk .u64 ((gandk .u64 (gshr .u64 (wk .u64 ((gandk .u64 (gshr .u64 x_0 1) 6148914691236517205) + (gandk .u64 x_0 6148914691236517205))) 2) 3689348814741910323) + (gandk .u64 (wk .u64 ((gandk .u64 (gshr .u64 x_0 1) 6148914691236517205) + (gandk .u64 x_0 6148914691236517205))) 3689348814741910323))))) 1085102592571150095) + (gshr .u64 (gandk .u64 (wk .u64 ((gshr .u64 (wk .u64 ((gandk .u64 (gshr .u64 (wk .u64 ((gandk .u64 (gshr .u64 x_0 1) 6148914691236517205) + (gandk .u64 x_0 6148914691236517205))) 2) 3689348814741910323) + (gandk .u64 (wk .u64 ((gandk .u64 (gshr .u64 x_0 1) 6148914691236517205) + (gandk .u64 x_0 6148914691236517205))) 3689348814741910323))) 4) + (wk .u64 ((gandk .u64 (gshr .u64 (wk .u64 ((gandk .u64 (gshr .u64 x_0 1) 6148914691236517205) + (gandk .u64 x_0 6148914691236517205))) 2) 3689348814741910323) + (gandk .u64 (wk .u64 ((gandk .u64 (gshr .u64 x_0 1) 6148914691236517205) + (gandk .u64 x_0 6148914691236517205))) 3689348814741910323))))) 1085102592571150095) 8))) + (gshr .u64 (wk .u64 ((gandk .u64 (wk .u64 ((gshr .u64 (wk .u64 ((gandk .u64 (gshr .u64 (wk .u64 ((gandk .u64 (gshr .u64 x_0 1) 6148914691236517205) + (gandk .u64 x_0 6148914691236517205))) 2) 3689348814741910323) + (gandk .u64 (wk .u64 ((gandk .u64 (gshr .u64 x_0 1) 6148914691236517205) + (gandk .u64 x_0 6148914691236517205))) 3689348814741910323))) 4) + (wk .u64 ((gandk .u64 (gshr .u64 (wk .u64 ((gandk .u64 (gshr .u64 x_0 1) 6148914691236517205) + (gandk .u64 x_0 6148914691236517205))) 2) 3689348814741910323) + (gandk .u64 (wk .u64 ((gandk .u64 (gshr .u64 x_0 1) 6148914691236517205) + (gandk .u64 x_0 6148914691236517205))) 3689348814741910323))))) 1085102592571150095) + (gshr .u64 (gandk .u64 (wk .u64 ((gshr .u64 (wk .u64 ((gandk .u64 (gshr .u64 (wk .u64 ((gandk .u64 (gshr .u64 x_0 1) 6148914691236517205) + (gandk .u64 x_0 6148914691236517205))) 2) 3689348814741910323) + (gandk .u64 (wk .u64 ((gandk .u64 (gshr .u64 x_0 1) 6148914691236517205) + (gandk .u64 x_0 6148914691236517205))) 3689348814741910323))) 4) + (wk .u64 ((gandk .u64 (gshr .u64 (wk .u64 ((gandk .u64 (gshr .u64 x_0 1) 6148914691236517205) + (gandk .u64 x_0 6148914691236517205))) 2) 3689348814741910323) + (gandk .u64 (wk .u64 ((gandk .u64 (gshr .u64 x_0 1) 6148914691236517205) + (gandk .u64 x_0 6148914691236517205))) 3689348814741910323))))) 1085102592571150095) 8))) 16))) 32)))) 127)

noncomputable def M.math_bits_OnesCount (x_0 : Int) : Option Int :=
  (M.math_bits_OnesCount64 x_0).bind fun r1 =>
  some r1

noncomputable def M.impl_BitsApart (a_0 : Int) (b_1 : Int) : Option Int :=
  Option.bind ((M.impl_validHash a_0).bind fun r2 =>
  (bif !r2 then
  some true
 else
  (M.impl_validHash b_1).bind fun r7 =>
  some (!r7))) fun o1 =>
  (bif o1 then
  some (-1)
 else
  (M.math_bits_OnesCount (wk .u64 (gxor a_0 b_1))).bind fun r13 =>
  some r13)

noncomputable def M.spec_BitsApart (a_0 : Int) (b_1 : Int) : Option Int :=
  Option.bind ((M.spec_inRange a_0 0 63).bind fun r2 =>
  (bif !r2 then
  some true
 else
  (M.spec_inRange b_1 0 63).bind fun r7 =>
  some (!r7))) fun o1 =>
  (bif o1 then
  some (-1)
 else
  (M.spec_bitsApart a_0 b_1).bind fun r13 =>
  some r13)

end Go.Vs

namespace Go.Vs

noncomputable def M.laws_FnExactBitsApart (aA_0 : Int) (aB_1 : Int) : Option Bool :=
  (M.spec_BitsApart aA_0 aB_1).bind fun r1 =>
  (M.impl_BitsApart aA_0 aB_1).bind fun r5 =>
  (bif r5 != r1 then
  some false
 else
  some true)

end Go.Vs

namespace Go.Vs

end Go.Vs

/- What the functions compute. -/
import Derived.Test.YtbnhppnkdmnneaaExactMoveToEng1
import Derived.Test.YtbnhppnkdmnneaaExactMoveToEng2
set_option linter.unusedVariables false
set_option linter.unusedSimpArgs false
namespace Go.Vs

noncomputable def M.impl_validCoords (coords_0 : List Int) : Option Bool :=
  Option.bind (loopM (fun (s2 : (Int)) => (bif decide (s2 < (coords_0.length : Int)) then
  (gidx coords_0 s2).bind fun x5 =>
  Option.bind ((bif decide (x5 < (-100)) then
  some true
 else
  some (decide (100 < x5)))) fun o11 =>
  (bif o11 then
  some (.inr (.inr false))
 else
  some (.inl (w64 (s2 + 1))))
 else
  some (.inr (.inl ())))) 0) (selim (fun t15 => some true)
   (fun t17 => some t17))

noncomputable def M.impl_ValidVector (v_0 : List Int) : Option Bool :=
  (bif (v_0.length : Int) == 4 then
  (M.impl_validCoords v_0).bind fun r2 =>
  some r2
 else
  some false)

noncomputable def M.spec_inRange (n_0 : Int) (low_1 : Int) (high_2 : Int) : Option Bool :=
  (bif decide (low_1 ≤ n_0) then
  some (decide (n_0 ≤ high_2))
 else
  some false)

noncomputable def M.spec_allIn (list_0 : List Int) (low_1 : Int) (high_2 : Int) : Option Bool :=
  Option.bind (loopM (fun (s2 : (Int)) => (bif decide (s2 < (list_0.length : Int)) then
  (gidx list_0 s2).bind fun x7 =>
  (M.spec_inRange x7 low_1 high_2).bind fun r12 =>
  (bif !r12 then
  some (.inr (.inr false))
 else
  some (.inl (w64 (s2 + 1))))
 else
  some (.inr (.inl ())))) 0) (selim (fun t17 => some true)
   (fun t19 => some t19))

noncomputable def M.spec_isVector (v_0 : List Int) : Option Bool :=
  (bif (v_0.length : Int) == 4 then
  (M.spec_allIn v_0 (-100) 100).bind fun r2 =>
  some r2
 else
  some false)

noncomputable def M.laws_equalInts (a_0 : List Int) (b_1 : List Int) : Option Bool :=
  (bif (a_0.length : Int) != (b_1.length : Int) then
  some false
 else
  Option.bind (loopM (fun (s3 : (Int)) => (bif decide (s3 < (a_0.length : Int)) then
  (gidx a_0 s3).bind fun x9 =>
  (gidx b_1 s3).bind fun x14 =>
  (bif x9 != x14 then
  some (.inr (.inr false))
 else
  some (.inl (w64 (s3 + 1))))
 else
  some (.inr (.inl ())))) 0) (selim (fun t21 => some true)
   (fun t23 => some t23)))

noncomputable def M.impl_divideDown (n_0 : Int) (by_1 : Int) : Option Int :=
  (gquo n_0 by_1).bind fun q1 =>
  (grem n_0 by_1).bind fun q3 =>
  Option.bind ((bif decide (q3 < 0) then
  some (w64 (q1 - 1))
 else
  some q1)) fun o5 =>
  some o5

noncomputable def M.spec_floorDiv (a_0 : Int) (b_1 : Int) : Option Int :=
  (gquo a_0 b_1).bind fun q1 =>
  (grem a_0 b_1).bind fun q3 =>
  Option.bind ((bif decide (q3 < 0) then
  some (w64 (q1 - 1))
 else
  some q1)) fun o5 =>
  some o5

noncomputable def M.impl_MoveTo (a_0 : List Int) (b_1 : List Int) (part_2 : Int) : Option ((List Int)) :=
  Option.bind ((M.impl_ValidVector a_0).bind fun r2 =>
  (bif !r2 then
  some true
 else
  (M.impl_ValidVector b_1).bind fun r7 =>
  (bif !r7 then
  some true
 else
  (bif decide (part_2 < 0) then
  some true
 else
  some (decide (1000 < part_2)))))) fun o1 =>
  (bif o1 then
  some []
 else
  Option.bind (loopM (fun (s24 : (List Int) × (Int)) => (bif decide (s24.2 < 4) then
  (gidx a_0 s24.2).bind fun x32 =>
  (gidx b_1 s24.2).bind fun x37 =>
  (gidx a_0 s24.2).bind fun x42 =>
  (M.impl_divideDown (w64 ((w64 (x37 - x42)) * part_2)) 1000).bind fun r47 =>
  (gidx s24.1 s24.2).bind fun x50 =>
  some (.inl ((s24.1.set s24.2.toNat (w64 (x32 + r47))), w64 (s24.2 + 1)))
 else
  some (.inr s24.1))) ((List.replicate 4 0), 0)) fun o23 =>
  some o23)

noncomputable def M.spec_MoveTo (a_0 : List Int) (b_1 : List Int) (part_2 : Int) : Option ((List Int)) :=
  Option.bind ((M.spec_isVector a_0).bind fun r7 =>
  (bif !r7 then
  some true
 else
  (M.spec_isVector b_1).bind fun r13 =>
  (bif !r13 then
  some true
 else
  (M.spec_inRange part_2 0 1000).bind fun r19 =>
  some (!r19)))) fun o6 =>
  (bif o6 then
  some []
 else
  Option.bind (loopM (fun (s30 : (List Int) × (Int)) => (bif decide (s30.2 < 4) then
  (gidx a_0 s30.2).bind fun x39 =>
  (gidx b_1 s30.2).bind fun x44 =>
  (gidx a_0 s30.2).bind fun x49 =>
  (M.spec_floorDiv (w64 ((w64 (x44 - x49)) * part_2)) 1000).bind fun r54 =>
  (gapp s30.1 ([w64 (x39 + r54)] : List Int)).bind fun xs62 =>
  some (.inl (xs62, w64 (s30.2 + 1)))
 else
  some (.inr s30.1))) (([] : List Int), 0)) fun o29 =>
  some o29)

end Go.Vs

namespace Go.Vs

end Go.Vs

namespace Go.Vs

noncomputable def M.laws_toIntS (a_0 : List Int) : Option ((List Int)) :=
  (gmake (a_0.length : Int) (0 : Int)).bind fun xs1 =>
  Option.bind (loopM (fun (s10 : (List Int) × (Int)) => (bif decide (s10.2 < (a_0.length : Int)) then
  (gidx a_0 s10.2).bind fun x18 =>
  (gidx s10.1 s10.2).bind fun x23 =>
  some (.inl ((s10.1.set s10.2.toNat x18), w64 (s10.2 + 1)))
 else
  some (.inr s10.1))) (xs1, 0)) fun o9 =>
  some o9

noncomputable def M.laws_eqIntS (a_0 : List Int) (b_1 : List Int) : Option Bool :=
  (bif (a_0.length : Int) != (b_1.length : Int) then
  some false
 else
  Option.bind (loopM (fun (s3 : (Int)) => (bif decide (s3 < (a_0.length : Int)) then
  (gidx a_0 s3).bind fun x9 =>
  (gidx b_1 s3).bind fun x14 =>
  (bif x9 != x14 then
  some (.inr (.inr false))
 else
  some (.inl (w64 (s3 + 1))))
 else
  some (.inr (.inl ())))) 0) (selim (fun t21 => some true)
   (fun t23 => some t23)))

noncomputable def M.laws_heldIntS (a_0 : List Int) (k_1 : Int) : Option Int :=
  Option.bind (loopM (fun (s2 : (Int) × (Int)) => (bif decide (s2.2 < (a_0.length : Int)) then
  (gidx a_0 s2.2).bind fun x7 =>
  (bif x7 != s2.1 then
  some (.inr (.inr (-1)))
 else
  some (.inl (w64 (s2.1 + 1), w64 (s2.2 + 1))))
 else
  some (.inr (.inl s2.1)))) (k_1, 0)) (selim (fun t13 => some t13)
   (fun t15 => some t15))

end Go.Vs

namespace Go.Vs

end Go.Vs

namespace Go.Vs

end Go.Vs

namespace Go.Vs

end Go.Vs

namespace Go.Vs

end Go.Vs

namespace Go.Vs

noncomputable def M.laws_markIntS (a_0 : List Int) (k_1 : Int) : Option (Int × (List Int)) :=
  Option.bind (loopM (fun (s2 : (List Int) × (Int) × (Int)) => (bif decide (s2.2.2 < (s2.1.length : Int)) then
  (gidx s2.1 s2.2.2).bind fun x6 =>
  some (.inl ((s2.1.set s2.2.2.toNat s2.2.1), w64 (s2.2.1 + 1), w64 (s2.2.2 + 1)))
 else
  some (.inr (s2.1, s2.2.1)))) (a_0, k_1, 0)) fun o1 =>
  some (o1.2, o1.1)

noncomputable def M.laws_FnExactMoveTo (aA_0 : List Int) (aB_1 : List Int) (aPart_2 : Int) : Option Bool :=
  (bif decide (1048576 < (aA_0.length : Int)) then
  some true
 else
  (bif decide (1048576 < (aB_1.length : Int)) then
  some true
 else
  (M.laws_toIntS aA_0).bind fun r3 =>
  (M.laws_toIntS aB_1).bind fun r10 =>
  (M.spec_MoveTo r3 r10 aPart_2).bind fun r21 =>
  (M.laws_toIntS aA_0).bind fun r27 =>
  (M.laws_toIntS aB_1).bind fun r34 =>
  (M.impl_MoveTo r27 r34 aPart_2).bind fun r41 =>
  (M.laws_eqIntS r41 r21).bind fun r48 =>
  (bif !r48 then
  some false
 else
  (M.laws_toIntS aA_0).bind fun r53 =>
  (M.laws_eqIntS r27 r53).bind fun r62 =>
  (bif !r62 then
  some false
 else
  (M.laws_toIntS aB_1).bind fun r67 =>
  (M.laws_eqIntS r34 r67).bind fun r76 =>
  (bif !r76 then
  some false
 else
  (M.laws_markIntS r27 1).bind fun r81 =>
  (M.laws_markIntS r34 r81.1).bind fun r86 =>
  Option.bind ((bif decide (r86.1 < 0) then
  some true
 else
  (M.laws_eqIntS r41 r21).bind fun r93 =>
  some (!r93))) fun o91 =>
  (bif o91 then
  some false
 else
  (M.laws_markIntS r41 1).bind fun r99 =>
  (M.laws_heldIntS r99.2 1).bind fun r104 =>
  (bif decide (r104 < 0) then
  some false
 else
  (bif r104 != r99.1 then
  some false
 else
  (M.laws_toIntS aA_0).bind fun r110 =>
  (M.laws_toIntS aB_1).bind fun r117 =>
  (M.impl_MoveTo r110 r117 aPart_2).bind fun r128 =>
  (M.laws_eqIntS r128 r21).bind fun r139 =>
  (bif !r139 then
  some false
 else
  (M.laws_heldIntS r99.2 1).bind fun r146 =>
  (bif decide (r146 < 0) then
  some false
 else
  (bif r146 != r99.1 then
  some false
 else
  some true)))))))))))

end Go.Vs

namespace Go.Vs

end Go.Vs

namespace Go.Vs

end Go.Vs

namespace Go.Vs

end Go.Vs

namespace Go.Vs

end Go.Vs

namespace Go.Vs

end Go.Vs

namespace Go.Vs

end Go.Vs

namespace Go.Vs

end Go.Vs

namespace Go.Vs

end Go.Vs

namespace Go.Vs

end Go.Vs

namespace Go.Vs

end Go.Vs

namespace Go.Vs

end Go.Vs

namespace Go.Vs

end Go.Vs

namespace Go.Vs

end Go.Vs

namespace Go.Vs

end Go.Vs

namespace Go.Vs

end Go.Vs

namespace Go.Vs

end Go.Vs

namespace Go.Vs

end Go.Vs

namespace Go.Vs

end Go.Vs

namespace Go.Vs

end Go.Vs

namespace Go.Vs

end Go.Vs

namespace Go.Vs

end Go.Vs

namespace Go.Vs

end Go.Vs

namespace Go.Vs

end Go.Vs

namespace Go.Vs

end Go.Vs

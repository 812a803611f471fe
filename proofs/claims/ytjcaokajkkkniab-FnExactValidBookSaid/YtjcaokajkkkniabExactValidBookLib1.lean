/- What the functions compute. -/
import Derived.Test.YtjcaokajkkkniabExactValidBookEng1
import Derived.Test.YtjcaokajkkkniabExactValidBookSrt1
set_option linter.unusedVariables false
set_option linter.unusedSimpArgs false
namespace Go.Vs

noncomputable def M.impl_validCoords (coords_0 : List Int) : Option Bool :=
  Option.bind (loopM (fun (s2 : (Int)) => (bif decide (s2 < (coords_0.length : Int)) then
  (gidx coords_0 s2).bind fun x5 =>
  Option.bind ((bif decide (x5 < (-100)) then
  some true
 else
  some (decide (100 < x5)))) fun o11 =>
  (bif o11 then
  some (.inr (.inr false))
 else
  some (.inl (w64 (s2 + 1))))
 else
  some (.inr (.inl ())))) 0) (selim (fun t15 => some true)
   (fun t17 => some t17))

noncomputable def M.spec_inRange (n_0 : Int) (low_1 : Int) (high_2 : Int) : Option Bool :=
  (bif decide (low_1 ≤ n_0) then
  some (decide (n_0 ≤ high_2))
 else
  some false)

noncomputable def M.spec_allIn (list_0 : List Int) (low_1 : Int) (high_2 : Int) : Option Bool :=
  Option.bind (loopM (fun (s2 : (Int)) => (bif decide (s2 < (list_0.length : Int)) then
  (gidx list_0 s2).bind fun x7 =>
  (M.spec_inRange x7 low_1 high_2).bind fun r12 =>
  (bif !r12 then
  some (.inr (.inr false))
 else
  some (.inl (w64 (s2 + 1))))
 else
  some (.inr (.inl ())))) 0) (selim (fun t17 => some true)
   (fun t19 => some t19))

noncomputable def M.laws_equalInts (a_0 : List Int) (b_1 : List Int) : Option Bool :=
  (bif (a_0.length : Int) != (b_1.length : Int) then
  some false
 else
  Option.bind (loopM (fun (s3 : (Int)) => (bif decide (s3 < (a_0.length : Int)) then
  (gidx a_0 s3).bind fun x9 =>
  (gidx b_1 s3).bind fun x14 =>
  (bif x9 != x14 then
  some (.inr (.inr false))
 else
  some (.inl (w64 (s3 + 1))))
 else
  some (.inr (.inl ())))) 0) (selim (fun t21 => some true)
   (fun t23 => some t23)))

end Go.Vs

namespace Go.Vs

end Go.Vs

namespace Go.Vs

noncomputable def M.laws_toIntS (a_0 : List Int) : Option ((List Int)) :=
  (gmake (a_0.length : Int) (0 : Int)).bind fun xs1 =>
  Option.bind (loopM (fun (s10 : (List Int) × (Int)) => (bif decide (s10.2 < (a_0.length : Int)) then
  (gidx a_0 s10.2).bind fun x18 =>
  (gidx s10.1 s10.2).bind fun x23 =>
  some (.inl ((s10.1.set s10.2.toNat x18), w64 (s10.2 + 1)))
 else
  some (.inr s10.1))) (xs1, 0)) fun o9 =>
  some o9

noncomputable def M.laws_eqIntS (a_0 : List Int) (b_1 : List Int) : Option Bool :=
  (bif (a_0.length : Int) != (b_1.length : Int) then
  some false
 else
  Option.bind (loopM (fun (s3 : (Int)) => (bif decide (s3 < (a_0.length : Int)) then
  (gidx a_0 s3).bind fun x9 =>
  (gidx b_1 s3).bind fun x14 =>
  (bif x9 != x14 then
  some (.inr (.inr false))
 else
  some (.inl (w64 (s3 + 1))))
 else
  some (.inr (.inl ())))) 0) (selim (fun t21 => some true)
   (fun t23 => some t23)))

noncomputable def M.laws_szIntS (a_0 : List Int) (left_1 : Int) : Option Int :=
  (bif decide ((w64 (left_1 - (a_0.length : Int))) < 0) then
  some (-1)
 else
  some (w64 (left_1 - (a_0.length : Int))))

noncomputable def M.laws_szIntSS (a_0 : List (List Int)) (left_1 : Int) : Option Int :=
  (bif decide ((w64 (left_1 - (a_0.length : Int))) < 0) then
  some (-1)
 else
  Option.bind (loopM (fun (s3 : (Int) × (Int)) => (bif decide (s3.2 < (a_0.length : Int)) then
  (gidx a_0 s3.2).bind fun x8 =>
  (M.laws_szIntS x8 s3.1).bind fun r18 =>
  (bif decide (r18 < 0) then
  some (.inr (.inr (-1)))
 else
  some (.inl (r18, w64 (s3.2 + 1))))
 else
  some (.inr (.inl s3.1)))) (w64 (left_1 - (a_0.length : Int)), 0)) (selim (fun t23 => some t23)
   (fun t25 => some t25)))

noncomputable def M.laws_toIntSS (a_0 : List (List Int)) : Option ((List (List Int))) :=
  (gmake (a_0.length : Int) ([] : List Int)).bind fun xs1 =>
  Option.bind (loopM (fun (s10 : (List (List Int)) × (Int)) => (bif decide (s10.2 < (a_0.length : Int)) then
  (gidx a_0 s10.2).bind fun x18 =>
  (M.laws_toIntS x18).bind fun r28 =>
  (gidx s10.1 s10.2).bind fun x37 =>
  some (.inl ((s10.1.set s10.2.toNat r28), w64 (s10.2 + 1)))
 else
  some (.inr s10.1))) (xs1, 0)) fun o9 =>
  some o9

noncomputable def M.laws_eqIntSS (a_0 : List (List Int)) (b_1 : List (List Int)) : Option Bool :=
  (bif (a_0.length : Int) != (b_1.length : Int) then
  some false
 else
  Option.bind (loopM (fun (s3 : (Int)) => (bif decide (s3 < (a_0.length : Int)) then
  (gidx a_0 s3).bind fun x9 =>
  (gidx b_1 s3).bind fun x19 =>
  (M.laws_eqIntS x9 x19).bind fun r30 =>
  (bif !r30 then
  some (.inr (.inr false))
 else
  some (.inl (w64 (s3 + 1))))
 else
  some (.inr (.inl ())))) 0) (selim (fun t35 => some true)
   (fun t37 => some t37)))

end Go.Vs

namespace Go.Vs

end Go.Vs

namespace Go.Vs

end Go.Vs

namespace Go.Vs

end Go.Vs

namespace Go.Vs

end Go.Vs

namespace Go.Vs

end Go.Vs

namespace Go.Vs

end Go.Vs

namespace Go.Vs

end Go.Vs

namespace Go.Vs

end Go.Vs

namespace Go.Vs

end Go.Vs

namespace Go.Vs

end Go.Vs

namespace Go.Vs

end Go.Vs

namespace Go.Vs

end Go.Vs

namespace Go.Vs

end Go.Vs

namespace Go.Vs

end Go.Vs

namespace Go.Vs

end Go.Vs

namespace Go.Vs

noncomputable def M.laws_szBook (a_0 : (List (List Int)) × (List (List Int))) (left_1 : Int) : Option Int :=
  (M.laws_szIntSS a_0.1 left_1).bind fun r4 =>
  (bif decide (r4 < 0) then
  some (-1)
 else
  (M.laws_szIntSS a_0.2 r4).bind fun r10 =>
  (bif decide (r10 < 0) then
  some (-1)
 else
  some r10))

noncomputable def M.spec_validHalves (list_0 : List (List Int)) : Option Bool :=
  Option.bind (loopM (fun (s2 : (Int)) => (bif decide (s2 < (list_0.length : Int)) then
  Option.bind ((gidx list_0 s2).bind fun x6 =>
  (bif (x6.length : Int) != 2 then
  some true
 else
  (gidx list_0 s2).bind fun x17 =>
  (M.spec_allIn x17 (-100) 100).bind fun r27 =>
  some (!r27))) fun o5 =>
  (bif o5 then
  some (.inr (.inr false))
 else
  some (.inl (w64 (s2 + 1))))
 else
  some (.inr (.inl ())))) 0) (selim (fun t33 => some true)
   (fun t35 => some t35))

noncomputable def M.spec_validBook (b_0 : (List (List Int)) × (List (List Int))) : Option Bool :=
  (bif (b_0.1.length : Int) == 4 then
  (bif (b_0.2.length : Int) == 4 then
  (M.spec_validHalves b_0.1).bind fun r8 =>
  (bif r8 then
  (M.spec_validHalves b_0.2).bind fun r14 =>
  some r14
 else
  some false)
 else
  some false)
 else
  some false)

noncomputable def M.laws_eqBook (a_0 : (List (List Int)) × (List (List Int))) (b_1 : (List (List Int)) × (List (List Int))) : Option Bool :=
  (M.laws_eqIntSS a_0.1 b_1.1).bind fun r7 =>
  (bif !r7 then
  some false
 else
  (M.laws_eqIntSS a_0.2 b_1.2).bind fun r14 =>
  (bif !r14 then
  some false
 else
  some true))

end Go.Vs

namespace Go.Vs

noncomputable def M.impl_validSide (side_0 : List (List Int)) : Option Bool :=
  (bif (side_0.length : Int) != 4 then
  some false
 else
  Option.bind (loopM (fun (s3 : (Int)) => (bif decide (s3 < (side_0.length : Int)) then
  (gidx side_0 s3).bind fun x6 =>
  Option.bind ((bif (x6.length : Int) != 2 then
  some true
 else
  (M.impl_validCoords x6).bind fun r18 =>
  some (!r18))) fun o16 =>
  (bif o16 then
  some (.inr (.inr false))
 else
  some (.inl (w64 (s3 + 1))))
 else
  some (.inr (.inl ())))) 0) (selim (fun t24 => some true)
   (fun t26 => some t26)))

noncomputable def M.impl_ValidBook (b_0 : (List (List Int)) × (List (List Int))) : Option Bool :=
  (M.impl_validSide b_0.1).bind fun r4 =>
  (bif r4 then
  (M.impl_validSide b_0.2).bind fun r10 =>
  some r10
 else
  some false)

noncomputable def M.laws_toBook (a_0 : (List (List Int)) × (List (List Int))) : Option (((List (List Int)) × (List (List Int)))) :=
  (M.laws_toIntSS a_0.1).bind fun r8 =>
  (M.laws_toIntSS a_0.2).bind fun r17 =>
  some (r8, r17)

noncomputable def M.spec_ValidBook (b_0 : (List (List Int)) × (List (List Int))) : Option Bool :=
  (M.spec_validBook (b_0.1, b_0.2)).bind fun r4 =>
  some r4

end Go.Vs

namespace Go.Vs

noncomputable def M.laws_FnExactValidBook (aB_0 : (List (List Int)) × (List (List Int))) : Option Bool :=
  (M.laws_szBook (aB_0.1, aB_0.2) 1048576).bind fun r4 =>
  (bif decide (r4 < 0) then
  some true
 else
  (M.laws_toBook (aB_0.1, aB_0.2)).bind fun r10 =>
  (M.spec_ValidBook (r10.1, r10.2)).bind fun r24 =>
  (M.laws_toBook (aB_0.1, aB_0.2)).bind fun r29 =>
  (M.impl_ValidBook (r29.1, r29.2)).bind fun r43 =>
  (bif r43 != r24 then
  some false
 else
  (M.laws_toBook (aB_0.1, aB_0.2)).bind fun r50 =>
  (M.laws_eqBook (r29.1, r29.2) (r50.1, r50.2)).bind fun r68 =>
  (bif !r68 then
  some false
 else
  some true)))

end Go.Vs

namespace Go.Vs

end Go.Vs

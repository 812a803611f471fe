/- What the functions compute. -/
import Derived.Test.YtcgkbgidfilodaaLibM2
set_option linter.unusedVariables false
set_option linter.unusedSimpArgs false
namespace Go.Vs

noncomputable def M.laws_toIntS (a_0 : List Int) : Option ((List Int)) :=
  (gmake (a_0.length : Int) (0 : Int)).bind fun xs1 =>
  Option.bind (loopM (fun (s10 : (List Int) × (Int)) => (bif decide (s10.2 < (a_0.length : Int)) then
  (gidx a_0 s10.2).bind fun x18 =>
  (gidx s10.1 s10.2).bind fun x23 =>
  some (.inl ((s10.1.set s10.2.toNat x18), w64 (s10.2 + 1)))
 else
  some (.inr s10.1))) (xs1, 0)) fun o9 =>
  some o9

noncomputable def M.laws_eqIntS (a_0 : List Int) (b_1 : List Int) : Option Bool :=
  (bif (a_0.length : Int) != (b_1.length : Int) then
  some false
 else
  Option.bind (loopM (fun (s3 : (Int)) => (bif decide (s3 < (a_0.length : Int)) then
  (gidx a_0 s3).bind fun x9 =>
  (gidx b_1 s3).bind fun x14 =>
  (bif x9 != x14 then
  some (.inr (.inr false))
 else
  some (.inl (w64 (s3 + 1))))
 else
  some (.inr (.inl ())))) 0) (selim (fun t21 => some true)
   (fun t23 => some t23)))

noncomputable def M.laws_FnExactValidVector (aV_0 : List Int) : Option Bool :=
  (bif decide (1048576 < (aV_0.length : Int)) then
  some true
 else
  (M.laws_toIntS aV_0).bind fun r2 =>
  (M.spec_ValidVector r2).bind fun r14 =>
  (M.laws_toIntS aV_0).bind fun r18 =>
  (M.impl_ValidVector r18).bind fun r29 =>
  (bif r29 != r14 then
  some false
 else
  (M.laws_toIntS aV_0).bind fun r40 =>
  (M.laws_eqIntS r18 r40).bind fun r59 =>
  (bif !r59 then
  some false
 else
  some true)))

noncomputable def M.laws_FnExactDistance (aKind_0 : Int) (aA_1 : List Int) (aB_2 : List Int) : Option Bool :=
  (bif decide (1048576 < (aA_1.length : Int)) then
  some true
 else
  (bif decide (1048576 < (aB_2.length : Int)) then
  some true
 else
  (M.laws_toIntS aA_1).bind fun r3 =>
  (M.laws_toIntS aB_2).bind fun r10 =>
  (M.spec_Distance aKind_0 r3 r10).bind fun r29 =>
  (M.laws_toIntS aA_1).bind fun r33 =>
  (M.laws_toIntS aB_2).bind fun r40 =>
  (M.impl_Distance aKind_0 r33 r40).bind fun r57 =>
  (bif r57 != r29 then
  some false
 else
  (M.laws_toIntS aA_1).bind fun r69 =>
  (M.laws_eqIntS r33 r69).bind fun r90 =>
  (bif !r90 then
  some false
 else
  (M.laws_toIntS aB_2).bind fun r96 =>
  (M.laws_eqIntS r40 r96).bind fun r115 =>
  (bif !r115 then
  some false
 else
  some true)))))

noncomputable def M.laws_FnExactDotOf (aA_0 : List Int) (aB_1 : List Int) : Option Bool :=
  (bif decide (1048576 < (aA_0.length : Int)) then
  some true
 else
  (bif decide (1048576 < (aB_1.length : Int)) then
  some true
 else
  (M.laws_toIntS aA_0).bind fun r3 =>
  (M.laws_toIntS aB_1).bind fun r10 =>
  (M.spec_DotOf r3 r10).bind fun r29 =>
  (M.laws_toIntS aA_0).bind fun r33 =>
  (M.laws_toIntS aB_1).bind fun r40 =>
  (M.impl_DotOf r33 r40).bind fun r57 =>
  Option.bind ((bif r57.1 != r29.1 then
  some true
 else
  some (r57.2 != r29.2))) fun o68 =>
  (bif o68 then
  some false
 else
  (M.laws_toIntS aA_0).bind fun r77 =>
  (M.laws_eqIntS r33 r77).bind fun r98 =>
  (bif !r98 then
  some false
 else
  (M.laws_toIntS aB_1).bind fun r104 =>
  (M.laws_eqIntS r40 r104).bind fun r123 =>
  (bif !r123 then
  some false
 else
  some true)))))

noncomputable def M.laws_szIntS (a_0 : List Int) (left_1 : Int) : Option Int :=
  (bif decide ((w64 (left_1 - (a_0.length : Int))) < 0) then
  some (-1)
 else
  some (w64 (left_1 - (a_0.length : Int))))

noncomputable def M.laws_szIntSS (a_0 : List (List Int)) (left_1 : Int) : Option Int :=
  (bif decide ((w64 (left_1 - (a_0.length : Int))) < 0) then
  some (-1)
 else
  Option.bind (loopM (fun (s3 : (Int) × (Int)) => (bif decide (s3.2 < (a_0.length : Int)) then
  (gidx a_0 s3.2).bind fun x8 =>
  (M.laws_szIntS x8 s3.1).bind fun r18 =>
  (bif decide (r18 < 0) then
  some (.inr (.inr (-1)))
 else
  some (.inl (r18, w64 (s3.2 + 1))))
 else
  some (.inr (.inl s3.1)))) (w64 (left_1 - (a_0.length : Int)), 0)) (selim (fun t23 => some t23)
   (fun t25 => some t25)))

noncomputable def M.laws_toIntSS (a_0 : List (List Int)) : Option ((List (List Int))) :=
  (gmake (a_0.length : Int) ([] : List Int)).bind fun xs1 =>
  Option.bind (loopM (fun (s10 : (List (List Int)) × (Int)) => (bif decide (s10.2 < (a_0.length : Int)) then
  (gidx a_0 s10.2).bind fun x18 =>
  (M.laws_toIntS x18).bind fun r28 =>
  (gidx s10.1 s10.2).bind fun x37 =>
  some (.inl ((s10.1.set s10.2.toNat r28), w64 (s10.2 + 1)))
 else
  some (.inr s10.1))) (xs1, 0)) fun o9 =>
  some o9

noncomputable def M.laws_eqIntSS (a_0 : List (List Int)) (b_1 : List (List Int)) : Option Bool :=
  (bif (a_0.length : Int) != (b_1.length : Int) then
  some false
 else
  Option.bind (loopM (fun (s3 : (Int)) => (bif decide (s3 < (a_0.length : Int)) then
  (gidx a_0 s3).bind fun x9 =>
  (gidx b_1 s3).bind fun x19 =>
  (M.laws_eqIntS x9 x19).bind fun r30 =>
  (bif !r30 then
  some (.inr (.inr false))
 else
  some (.inl (w64 (s3 + 1))))
 else
  some (.inr (.inl ())))) 0) (selim (fun t35 => some true)
   (fun t37 => some t37)))

noncomputable def M.laws_heldIntS (a_0 : List Int) (k_1 : Int) : Option Int :=
  Option.bind (loopM (fun (s2 : (Int) × (Int)) => (bif decide (s2.2 < (a_0.length : Int)) then
  (gidx a_0 s2.2).bind fun x7 =>
  (bif x7 != s2.1 then
  some (.inr (.inr (-1)))
 else
  some (.inl (w64 (s2.1 + 1), w64 (s2.2 + 1))))
 else
  some (.inr (.inl s2.1)))) (k_1, 0)) (selim (fun t13 => some t13)
   (fun t15 => some t15))

noncomputable def M.laws_szItem (a_0 : Int × (List Int) × Int) (left_1 : Int) : Option Int :=
  (M.laws_szIntS a_0.2.1 left_1).bind fun r7 =>
  (bif decide (r7 < 0) then
  some (-1)
 else
  some r7)

noncomputable def M.laws_szItemS (a_0 : List (Int × (List Int) × Int)) (left_1 : Int) : Option Int :=
  (bif decide ((w64 (left_1 - (a_0.length : Int))) < 0) then
  some (-1)
 else
  Option.bind (loopM (fun (s3 : (Int) × (Int)) => (bif decide (s3.2 < (a_0.length : Int)) then
  (gidx a_0 s3.2).bind fun x8 =>
  (M.laws_szItem (x8.1, x8.2.1, x8.2.2) s3.1).bind fun r19 =>
  (bif decide (r19 < 0) then
  some (.inr (.inr (-1)))
 else
  some (.inl (r19, w64 (s3.2 + 1))))
 else
  some (.inr (.inl s3.1)))) (w64 (left_1 - (a_0.length : Int)), 0)) (selim (fun t24 => some t24)
   (fun t26 => some t26)))

noncomputable def M.laws_toItem (a_0 : Int × (List Int) × Int) : Option ((Int × (List Int) × Int)) :=
  (M.laws_toIntS a_0.2.1).bind fun r26 =>
  some (a_0.1, r26, a_0.2.2)

noncomputable def M.laws_toItemS (a_0 : List (Int × (List Int) × Int)) : Option ((List (Int × (List Int) × Int))) :=
  (gmake (a_0.length : Int) ((0, [], 0) : Int × (List Int) × Int)).bind fun xs1 =>
  Option.bind (loopM (fun (s10 : (List (Int × (List Int) × Int)) × (Int)) => (bif decide (s10.2 < (a_0.length : Int)) then
  (gidx a_0 s10.2).bind fun x18 =>
  (M.laws_toItem (x18.1, x18.2.1, x18.2.2)).bind fun r29 =>
  (gidx s10.1 s10.2).bind fun x37 =>
  some (.inl ((s10.1.set s10.2.toNat (r29.1, r29.2.1, r29.2.2)), w64 (s10.2 + 1)))
 else
  some (.inr s10.1))) (xs1, 0)) fun o9 =>
  some o9

noncomputable def M.laws_eqItem (a_0 : Int × (List Int) × Int) (b_1 : Int × (List Int) × Int) : Option Bool :=
  (bif a_0.1 != b_1.1 then
  some false
 else
  (M.laws_eqIntS a_0.2.1 b_1.2.1).bind fun r15 =>
  (bif !r15 then
  some false
 else
  (bif a_0.2.2 != b_1.2.2 then
  some false
 else
  some true)))

noncomputable def M.laws_eqItemS (a_0 : List (Int × (List Int) × Int)) (b_1 : List (Int × (List Int) × Int)) : Option Bool :=
  (bif (a_0.length : Int) != (b_1.length : Int) then
  some false
 else
  Option.bind (loopM (fun (s3 : (Int)) => (bif decide (s3 < (a_0.length : Int)) then
  (gidx a_0 s3).bind fun x9 =>
  (gidx b_1 s3).bind fun x20 =>
  (M.laws_eqItem (x9.1, x9.2.1, x9.2.2) (x20.1, x20.2.1, x20.2.2)).bind fun r32 =>
  (bif !r32 then
  some (.inr (.inr false))
 else
  some (.inl (w64 (s3 + 1))))
 else
  some (.inr (.inl ())))) 0) (selim (fun t37 => some true)
   (fun t39 => some t39)))

noncomputable def M.laws_FnExactValidStore (aList_0 : List (Int × (List Int) × Int)) : Option Bool :=
  (M.laws_szItemS aList_0 1048576).bind fun r1 =>
  (bif decide (r1 < 0) then
  some true
 else
  (M.laws_toItemS aList_0).bind fun r6 =>
  (M.spec_ValidStore r6).bind fun r18 =>
  (M.laws_toItemS aList_0).bind fun r22 =>
  (M.impl_ValidStore r22).bind fun r33 =>
  (bif r33 != r18 then
  some false
 else
  (M.laws_toItemS aList_0).bind fun r44 =>
  (M.laws_eqItemS r22 r44).bind fun r63 =>
  (bif !r63 then
  some false
 else
  some true)))

noncomputable def M.laws_heldItemS (a_0 : List (Int × (List Int) × Int)) (k_1 : Int) : Option Int :=
  Option.bind (loopM (fun (s2 : (Int) × (Int)) => (bif decide (s2.2 < (a_0.length : Int)) then
  (gidx a_0 s2.2).bind fun x7 =>
  (bif x7.1 != s2.1 then
  some (.inr (.inr (-1)))
 else
  (gidx a_0 s2.2).bind fun x13 =>
  (M.laws_heldIntS x13.2.1 (w64 (s2.1 + 1))).bind fun r23 =>
  (bif decide (r23 < 0) then
  some (.inr (.inr (-1)))
 else
  (gidx a_0 s2.2).bind fun x28 =>
  (bif x28.2.2 != r23 then
  some (.inr (.inr (-1)))
 else
  some (.inl (w64 (r23 + 1), w64 (s2.2 + 1))))))
 else
  some (.inr (.inl s2.1)))) (k_1, 0)) (selim (fun t34 => some t34)
   (fun t36 => some t36))

noncomputable def M.laws_heldItem (a_0 : Int × (List Int) × Int) (k_1 : Int) : Option Int :=
  (M.laws_heldIntS a_0.2.1 k_1).bind fun r7 =>
  (bif decide (r7 < 0) then
  some (-1)
 else
  some r7)

end Go.Vs

/- What the functions compute. -/
import Derived.Test.YtpccmkphddipdabExactValidLogEng1
set_option linter.unusedVariables false
set_option linter.unusedSimpArgs false
namespace Go.Vs

noncomputable def M.impl_validCoords (coords_0 : List Int) : Option Bool :=
  Option.bind (loopM (fun (s2 : (Int)) => (bif decide (s2 < (coords_0.length : Int)) then
  (gidx coords_0 s2).bind fun x5 =>
  Option.bind ((bif decide (x5 < (-100)) then
  some true
 else
  some (decide (100 < x5)))) fun o11 =>
  (bif o11 then
  some (.inr (.inr false))
 else
  some (.inl (w64 (s2 + 1))))
 else
  some (.inr (.inl ())))) 0) (selim (fun t15 => some true)
   (fun t17 => some t17))

noncomputable def M.impl_ValidVector (v_0 : List Int) : Option Bool :=
  (bif (v_0.length : Int) == 4 then
  (M.impl_validCoords v_0).bind fun r2 =>
  some r2
 else
  some false)

noncomputable def M.spec_inRange (n_0 : Int) (low_1 : Int) (high_2 : Int) : Option Bool :=
  (bif decide (low_1 ≤ n_0) then
  some (decide (n_0 ≤ high_2))
 else
  some false)

noncomputable def M.spec_allIn (list_0 : List Int) (low_1 : Int) (high_2 : Int) : Option Bool :=
  Option.bind (loopM (fun (s2 : (Int)) => (bif decide (s2 < (list_0.length : Int)) then
  (gidx list_0 s2).bind fun x7 =>
  (M.spec_inRange x7 low_1 high_2).bind fun r12 =>
  (bif !r12 then
  some (.inr (.inr false))
 else
  some (.inl (w64 (s2 + 1))))
 else
  some (.inr (.inl ())))) 0) (selim (fun t17 => some true)
   (fun t19 => some t19))

noncomputable def M.spec_isVector (v_0 : List Int) : Option Bool :=
  (bif (v_0.length : Int) == 4 then
  (M.spec_allIn v_0 (-100) 100).bind fun r2 =>
  some r2
 else
  some false)

noncomputable def M.laws_equalInts (a_0 : List Int) (b_1 : List Int) : Option Bool :=
  (bif (a_0.length : Int) != (b_1.length : Int) then
  some false
 else
  Option.bind (loopM (fun (s3 : (Int)) => (bif decide (s3 < (a_0.length : Int)) then
  (gidx a_0 s3).bind fun x9 =>
  (gidx b_1 s3).bind fun x14 =>
  (bif x9 != x14 then
  some (.inr (.inr false))
 else
  some (.inl (w64 (s3 + 1))))
 else
  some (.inr (.inl ())))) 0) (selim (fun t21 => some true)
   (fun t23 => some t23)))

noncomputable def M.spec_validItem (x_0 : Int × (List Int) × Int) : Option Bool :=
  (M.spec_inRange x_0.1 1 99).bind fun r7 =>
  (bif r7 then
  (M.spec_isVector x_0.2.1).bind fun r13 =>
  (bif r13 then
  (M.spec_inRange x_0.2.2 0 15).bind fun r19 =>
  some r19
 else
  some false)
 else
  some false)

noncomputable def M.impl_validKey (key_0 : Int) : Option Bool :=
  (bif decide (1 ≤ key_0) then
  some (decide (key_0 ≤ 99))
 else
  some false)

noncomputable def M.impl_validTags (tags_0 : Int) : Option Bool :=
  (bif decide (0 ≤ tags_0) then
  some (decide (tags_0 ≤ 15))
 else
  some false)

noncomputable def M.impl_validItem (x_0 : Int × (List Int) × Int) : Option Bool :=
  (M.impl_validKey x_0.1).bind fun r4 =>
  (bif r4 then
  (M.impl_ValidVector x_0.2.1).bind fun r10 =>
  (bif r10 then
  (M.impl_validTags x_0.2.2).bind fun r16 =>
  some r16
 else
  some false)
 else
  some false)

end Go.Vs

namespace Go.Vs

end Go.Vs

namespace Go.Vs

noncomputable def M.laws_toIntS (a_0 : List Int) : Option ((List Int)) :=
  (gmake (a_0.length : Int) (0 : Int)).bind fun xs1 =>
  Option.bind (loopM (fun (s10 : (List Int) × (Int)) => (bif decide (s10.2 < (a_0.length : Int)) then
  (gidx a_0 s10.2).bind fun x18 =>
  (gidx s10.1 s10.2).bind fun x23 =>
  some (.inl ((s10.1.set s10.2.toNat x18), w64 (s10.2 + 1)))
 else
  some (.inr s10.1))) (xs1, 0)) fun o9 =>
  some o9

noncomputable def M.laws_eqIntS (a_0 : List Int) (b_1 : List Int) : Option Bool :=
  (bif (a_0.length : Int) != (b_1.length : Int) then
  some false
 else
  Option.bind (loopM (fun (s3 : (Int)) => (bif decide (s3 < (a_0.length : Int)) then
  (gidx a_0 s3).bind fun x9 =>
  (gidx b_1 s3).bind fun x14 =>
  (bif x9 != x14 then
  some (.inr (.inr false))
 else
  some (.inl (w64 (s3 + 1))))
 else
  some (.inr (.inl ())))) 0) (selim (fun t21 => some true)
   (fun t23 => some t23)))

noncomputable def M.laws_szIntS (a_0 : List Int) (left_1 : Int) : Option Int :=
  (bif decide ((w64 (left_1 - (a_0.length : Int))) < 0) then
  some (-1)
 else
  some (w64 (left_1 - (a_0.length : Int))))

noncomputable def M.laws_szItem (a_0 : Int × (List Int) × Int) (left_1 : Int) : Option Int :=
  (M.laws_szIntS a_0.2.1 left_1).bind fun r7 =>
  (bif decide (r7 < 0) then
  some (-1)
 else
  some r7)

noncomputable def M.laws_toItem (a_0 : Int × (List Int) × Int) : Option ((Int × (List Int) × Int)) :=
  (M.laws_toIntS a_0.2.1).bind fun r26 =>
  some (a_0.1, r26, a_0.2.2)

noncomputable def M.laws_eqItem (a_0 : Int × (List Int) × Int) (b_1 : Int × (List Int) × Int) : Option Bool :=
  (bif a_0.1 != b_1.1 then
  some false
 else
  (M.laws_eqIntS a_0.2.1 b_1.2.1).bind fun r15 =>
  (bif !r15 then
  some false
 else
  (bif a_0.2.2 != b_1.2.2 then
  some false
 else
  some true)))

end Go.Vs

namespace Go.Vs

end Go.Vs

namespace Go.Vs

end Go.Vs

namespace Go.Vs

end Go.Vs

namespace Go.Vs

end Go.Vs

namespace Go.Vs

end Go.Vs

namespace Go.Vs

end Go.Vs

namespace Go.Vs

end Go.Vs

namespace Go.Vs

end Go.Vs

namespace Go.Vs

end Go.Vs

namespace Go.Vs

end Go.Vs

namespace Go.Vs

end Go.Vs

namespace Go.Vs

end Go.Vs

namespace Go.Vs

end Go.Vs

namespace Go.Vs

end Go.Vs

namespace Go.Vs

end Go.Vs

namespace Go.Vs

end Go.Vs

namespace Go.Vs

end Go.Vs

namespace Go.Vs

end Go.Vs

namespace Go.Vs

end Go.Vs

namespace Go.Vs

end Go.Vs

namespace Go.Vs

end Go.Vs

namespace Go.Vs

noncomputable def M.spec_validEntry (e_0 : Int × (Int × (List Int) × Int)) : Option Bool :=
  (bif e_0.1 == 1 then
  (M.spec_validItem (e_0.2.1, e_0.2.2.1, e_0.2.2.2)).bind fun r6 =>
  some r6
 else
  (bif e_0.1 == 2 then
  (M.spec_inRange e_0.2.1 1 99).bind fun r13 =>
  (bif r13 then
  (bif (e_0.2.2.1.length : Int) == 0 then
  some (e_0.2.2.2 == 0)
 else
  some false)
 else
  some false)
 else
  some false))

noncomputable def M.spec_validLog (list_0 : List (Int × (Int × (List Int) × Int))) : Option Bool :=
  Option.bind (loopM (fun (s2 : (Int)) => (bif decide (s2 < (list_0.length : Int)) then
  (gidx list_0 s2).bind fun x5 =>
  (M.spec_validEntry (x5.1, (x5.2.1, x5.2.2.1, x5.2.2.2))).bind fun r15 =>
  (bif !r15 then
  some (.inr (.inr false))
 else
  some (.inl (w64 (s2 + 1))))
 else
  some (.inr (.inl ())))) 0) (selim (fun t20 => some (decide ((list_0.length : Int) ≤ 32)))
   (fun t22 => some t22))

noncomputable def M.spec_ValidLog (list_0 : List (Int × (Int × (List Int) × Int))) : Option Bool :=
  (M.spec_validLog list_0).bind fun r1 =>
  some r1

noncomputable def M.laws_eqEntry (a_0 : Int × (Int × (List Int) × Int)) (b_1 : Int × (Int × (List Int) × Int)) : Option Bool :=
  (bif a_0.1 != b_1.1 then
  some false
 else
  (M.laws_eqItem (a_0.2.1, a_0.2.2.1, a_0.2.2.2) (b_1.2.1, b_1.2.2.1, b_1.2.2.2)).bind fun r10 =>
  (bif !r10 then
  some false
 else
  some true))

noncomputable def M.laws_eqEntryS (a_0 : List (Int × (Int × (List Int) × Int))) (b_1 : List (Int × (Int × (List Int) × Int))) : Option Bool :=
  (bif (a_0.length : Int) != (b_1.length : Int) then
  some false
 else
  Option.bind (loopM (fun (s3 : (Int)) => (bif decide (s3 < (a_0.length : Int)) then
  (gidx a_0 s3).bind fun x6 =>
  (gidx b_1 s3).bind fun x16 =>
  (M.laws_eqEntry (x6.1, (x6.2.1, x6.2.2.1, x6.2.2.2)) (x16.1, (x16.2.1, x16.2.2.1, x16.2.2.2))).bind fun r28 =>
  (bif !r28 then
  some (.inr (.inr false))
 else
  some (.inl (w64 (s3 + 1))))
 else
  some (.inr (.inl ())))) 0) (selim (fun t33 => some true)
   (fun t35 => some t35)))

noncomputable def M.laws_szEntry (a_0 : Int × (Int × (List Int) × Int)) (left_1 : Int) : Option Int :=
  (M.laws_szItem (a_0.2.1, a_0.2.2.1, a_0.2.2.2) left_1).bind fun r4 =>
  (bif decide (r4 < 0) then
  some (-1)
 else
  some r4)

noncomputable def M.laws_szEntryS (a_0 : List (Int × (Int × (List Int) × Int))) (left_1 : Int) : Option Int :=
  (bif decide ((w64 (left_1 - (a_0.length : Int))) < 0) then
  some (-1)
 else
  Option.bind (loopM (fun (s3 : (Int) × (Int)) => (bif decide (s3.2 < (a_0.length : Int)) then
  (gidx a_0 s3.2).bind fun x6 =>
  (M.laws_szEntry (x6.1, (x6.2.1, x6.2.2.1, x6.2.2.2)) s3.1).bind fun r16 =>
  (bif decide (r16 < 0) then
  some (.inr (.inr (-1)))
 else
  some (.inl (r16, w64 (s3.2 + 1))))
 else
  some (.inr (.inl s3.1)))) (w64 (left_1 - (a_0.length : Int)), 0)) (selim (fun t21 => some t21)
   (fun t23 => some t23)))

noncomputable def M.laws_toEntry (a_0 : Int × (Int × (List Int) × Int)) : Option ((Int × (Int × (List Int) × Int))) :=
  (M.laws_toItem (a_0.2.1, a_0.2.2.1, a_0.2.2.2)).bind fun r10 =>
  some (a_0.1, (r10.1, r10.2.1, r10.2.2))

noncomputable def M.laws_toEntryS (a_0 : List (Int × (Int × (List Int) × Int))) : Option ((List (Int × (Int × (List Int) × Int)))) :=
  (gmake (a_0.length : Int) ((0, (0, [], 0)) : Int × (Int × (List Int) × Int))).bind fun xs1 =>
  Option.bind (loopM (fun (s8 : (List (Int × (Int × (List Int) × Int))) × (Int)) => (bif decide (s8.2 < (a_0.length : Int)) then
  (gidx a_0 s8.2).bind fun x13 =>
  (M.laws_toEntry (x13.1, (x13.2.1, x13.2.2.1, x13.2.2.2))).bind fun r23 =>
  (gidx s8.1 s8.2).bind fun x30 =>
  some (.inl ((s8.1.set s8.2.toNat (r23.1, (r23.2.1, r23.2.2.1, r23.2.2.2))), w64 (s8.2 + 1)))
 else
  some (.inr s8.1))) (xs1, 0)) fun o7 =>
  some o7

end Go.Vs

namespace Go.Vs

end Go.Vs

namespace Go.Vs

end Go.Vs

namespace Go.Vs

end Go.Vs

namespace Go.Vs

end Go.Vs

namespace Go.Vs

end Go.Vs

namespace Go.Vs

end Go.Vs

namespace Go.Vs

end Go.Vs

namespace Go.Vs

end Go.Vs

namespace Go.Vs

noncomputable def M.impl_onlyKey (x_0 : Int × (List Int) × Int) : Option Bool :=
  (M.impl_validKey x_0.1).bind fun r4 =>
  (bif r4 then
  (bif (x_0.2.1.length : Int) == 0 then
  some (x_0.2.2 == 0)
 else
  some false)
 else
  some false)

noncomputable def M.impl_changeOf (e_0 : Int × (Int × (List Int) × Int)) : Option ((If2 Int ((Int × (List Int) × Int))) × Bool) :=
  Option.bind ((bif e_0.1 == 1 then
  (M.impl_validItem (e_0.2.1, e_0.2.2.1, e_0.2.2.2)).bind fun r7 =>
  some r7
 else
  some false)) fun o3 =>
  (bif o3 then
  some ((If2.mk 2 0 (e_0.2.1, e_0.2.2.1, e_0.2.2.2)), true)
 else
  Option.bind ((bif e_0.1 == 2 then
  (M.impl_onlyKey (e_0.2.1, e_0.2.2.1, e_0.2.2.2)).bind fun r18 =>
  some r18
 else
  some false)) fun o14 =>
  (bif o14 then
  some ((If2.mk 1 e_0.2.1 (0, [], 0)), true)
 else
  some ((If2.mk 0 0 (0, [], 0)), false)))

noncomputable def M.impl_changesOf (log_0 : List (Int × (Int × (List Int) × Int))) : Option ((List (If2 Int ((Int × (List Int) × Int)))) × Bool) :=
  (bif decide (32 < (log_0.length : Int)) then
  some ([], false)
 else
  (gmake (log_0.length : Int) ((If2.mk 0 0 (0, [], 0)) : If2 Int ((Int × (List Int) × Int)))).bind fun xs2 =>
  Option.bind (loopM (fun (s9 : (List (If2 Int ((Int × (List Int) × Int)))) × (Int)) => (bif decide (s9.2 < (log_0.length : Int)) then
  (gidx log_0 s9.2).bind fun x14 =>
  (M.impl_changeOf (x14.1, (x14.2.1, x14.2.2.1, x14.2.2.2))).bind fun r28 =>
  (bif !r28.2 then
  some (.inr (.inr ([], false)))
 else
  (gidx s9.1 s9.2).bind fun x35 =>
  some (.inl ((s9.1.set s9.2.toNat (If2.mk r28.1.1 r28.1.2.1 (r28.1.2.2.1, r28.1.2.2.2.1, r28.1.2.2.2.2))), w64 (s9.2 + 1))))
 else
  some (.inr (.inl s9.1)))) (xs2, 0)) (selim (fun t44 => some (t44, true))
   (fun t48 => some (t48.1, t48.2))))

noncomputable def M.impl_ValidLog (list_0 : List (Int × (Int × (List Int) × Int))) : Option Bool :=
  (M.impl_changesOf list_0).bind fun r1 =>
  some r1.2

noncomputable def M.laws_FnExactValidLog (aList_0 : List (Int × (Int × (List Int) × Int))) : Option Bool :=
  (M.laws_szEntryS aList_0 1048576).bind fun r1 =>
  (bif decide (r1 < 0) then
  some true
 else
  (M.laws_toEntryS aList_0).bind fun r6 =>
  (M.spec_ValidLog r6).bind fun r15 =>
  (M.laws_toEntryS aList_0).bind fun r19 =>
  (M.impl_ValidLog r19).bind fun r26 =>
  (bif r26 != r15 then
  some false
 else
  (M.laws_toEntryS aList_0).bind fun r31 =>
  (M.laws_eqEntryS r19 r31).bind fun r42 =>
  (bif !r42 then
  some false
 else
  some true)))

end Go.Vs

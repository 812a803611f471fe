/- What the functions compute. -/
import Derived.Test.YtcgkbgidfilodaaLibM7
set_option linter.unusedVariables false
set_option linter.unusedSimpArgs false
namespace Go.Vs

noncomputable def M.laws_FnClosestPairDrop (code_0 : List UInt8) : Option Bool :=
  (bif decide (1048576 < (code_0.length : Int)) then
  some true
 else
  (M.spec_DrawClosestPair code_0).bind fun r2 =>
  (M.impl_ClosestPair r2.1 r2.2).bind fun r8 =>
  (M.spec_ClosestPair r2.1 r2.2).bind fun r12 =>
  Option.bind ((bif r8.1 != r12.1 then
  some true
 else
  (bif r8.2.1 != r12.2.1 then
  some true
 else
  (bif r8.2.2 != r12.2.2 then
  some true
 else
  some (!r8.2.2))))) fun o16 =>
  (bif o16 then
  (bif r8.1 == r12.1 then
  (bif r8.2.1 == r12.2.1 then
  some (r8.2.2 == r12.2.2)
 else
  some false)
 else
  some false)
 else
  Option.bind (loopM (fun (s25 : (Int)) => (bif decide (s25 < (r2.1.length : Int)) then
  Option.bind (Option.bind ((gidx r2.1 s25).bind fun x32 =>
  (bif x32.1 == r8.1 then
  some true
 else
  (gidx r2.1 s25).bind fun x39 =>
  some (x39.1 == r8.2.1))) fun o31 =>
  (bif o31 then
  some (.inl ())
 else
  (gidx r2.1 s25).bind fun x47 =>
  (M.impl_DropItem r2.1 x47.1).bind fun r53 =>
  (M.impl_ClosestPair r53.1 r2.2).bind fun r61 =>
  Option.bind ((bif !r53.2 then
  some true
 else
  (bif !r61.2.2 then
  some true
 else
  (bif r61.1 != r8.1 then
  some true
 else
  some (r61.2.1 != r8.2.1))))) fun o65 =>
  (bif o65 then
  some (.inr false)
 else
  some (.inl ())))) (selim (fun t71 => some (.inl (w64 (s25 + 1))))
   (fun t73 => some (.inr (.inr t73))))
 else
  some (.inr (.inl ())))) 0) (selim (fun t75 => some true)
   (fun t77 => some t77))))

noncomputable def M.laws_markIntS (a_0 : List Int) (k_1 : Int) : Option (Int × (List Int)) :=
  Option.bind (loopM (fun (s2 : (List Int) × (Int) × (Int)) => (bif decide (s2.2.2 < (s2.1.length : Int)) then
  (gidx s2.1 s2.2.2).bind fun x6 =>
  some (.inl ((s2.1.set s2.2.2.toNat s2.2.1), w64 (s2.2.1 + 1), w64 (s2.2.2 + 1)))
 else
  some (.inr (s2.1, s2.2.1)))) (a_0, k_1, 0)) fun o1 =>
  some (o1.2, o1.1)

noncomputable def M.laws_FnExactMoveTo (aA_0 : List Int) (aB_1 : List Int) (aPart_2 : Int) : Option Bool :=
  (bif decide (1048576 < (aA_0.length : Int)) then
  some true
 else
  (bif decide (1048576 < (aB_1.length : Int)) then
  some true
 else
  (M.laws_toIntS aA_0).bind fun r3 =>
  (M.laws_toIntS aB_1).bind fun r10 =>
  (M.spec_MoveTo r3 r10 aPart_2).bind fun r21 =>
  (M.laws_toIntS aA_0).bind fun r27 =>
  (M.laws_toIntS aB_1).bind fun r34 =>
  (M.impl_MoveTo r27 r34 aPart_2).bind fun r41 =>
  (M.laws_eqIntS r41 r21).bind fun r48 =>
  (bif !r48 then
  some false
 else
  (M.laws_toIntS aA_0).bind fun r53 =>
  (M.laws_eqIntS r27 r53).bind fun r62 =>
  (bif !r62 then
  some false
 else
  (M.laws_toIntS aB_1).bind fun r67 =>
  (M.laws_eqIntS r34 r67).bind fun r76 =>
  (bif !r76 then
  some false
 else
  (M.laws_markIntS r27 1).bind fun r81 =>
  (M.laws_markIntS r34 r81.1).bind fun r86 =>
  Option.bind ((bif decide (r86.1 < 0) then
  some true
 else
  (M.laws_eqIntS r41 r21).bind fun r93 =>
  some (!r93))) fun o91 =>
  (bif o91 then
  some false
 else
  (M.laws_markIntS r41 1).bind fun r99 =>
  (M.laws_heldIntS r99.2 1).bind fun r104 =>
  (bif decide (r104 < 0) then
  some false
 else
  (bif r104 != r99.1 then
  some false
 else
  (M.laws_toIntS aA_0).bind fun r110 =>
  (M.laws_toIntS aB_1).bind fun r117 =>
  (M.impl_MoveTo r110 r117 aPart_2).bind fun r128 =>
  (M.laws_eqIntS r128 r21).bind fun r139 =>
  (bif !r139 then
  some false
 else
  (M.laws_heldIntS r99.2 1).bind fun r146 =>
  (bif decide (r146 < 0) then
  some false
 else
  (bif r146 != r99.1 then
  some false
 else
  some true)))))))))))

noncomputable def M.laws_FnExactClosestPair (aList_0 : List (Int × (List Int) × Int)) (aKind_1 : Int) : Option Bool :=
  (M.laws_szItemS aList_0 1048576).bind fun r1 =>
  (bif decide (r1 < 0) then
  some true
 else
  (M.laws_toItemS aList_0).bind fun r6 =>
  (M.spec_ClosestPair r6 aKind_1).bind fun r15 =>
  (M.laws_toItemS aList_0).bind fun r19 =>
  (M.impl_ClosestPair r19 aKind_1).bind fun r26 =>
  Option.bind ((bif r26.1 != r15.1 then
  some true
 else
  (bif r26.2.1 != r15.2.1 then
  some true
 else
  some (r26.2.2 != r15.2.2)))) fun o30 =>
  (bif o30 then
  some false
 else
  (M.laws_toItemS aList_0).bind fun r35 =>
  (M.laws_eqItemS r19 r35).bind fun r46 =>
  (bif !r46 then
  some false
 else
  some true)))

end Go.Vs

/- What the functions compute. -/
import Derived.Test.YtpccmkphddipdabShardOfSpreadEng1
set_option linter.unusedVariables false
set_option linter.unusedSimpArgs false
namespace Go.Vs

noncomputable def M.spec_reader_pick (r_0 : (List UInt8) × Int) (n_1 : Int) : Option (Int × ((List UInt8) × Int)) :=
  Option.bind ((bif decide (n_1 < 1) then
  some true
 else
  some ((r_0.1.length : Int) == 0))) fun o5 =>
  (bif o5 then
  some (0, (r_0.1, w64 (r_0.2 + 1)))
 else
  (bif decide ((w64 ((w64 (r_0.2 + 1)) - 1)) < (r_0.1.length : Int)) then
  (gidx r_0.1 (w64 ((w64 (r_0.2 + 1)) - 1))).bind fun x12 =>
  (grem (w64 (x12.toNat : Int)) n_1).bind fun q17 =>
  some (q17, (r_0.1, w64 (r_0.2 + 1)))
 else
  (grem (w64 ((w64 (r_0.2 + 1)) - 1)) (r_0.1.length : Int)).bind fun q19 =>
  (gidx r_0.1 q19).bind fun x21 =>
  (grem (w64 ((w64 ((w64 ((w64 (r_0.2 + 1)) - 1)) * 7)) + 3)) (r_0.1.length : Int)).bind fun q26 =>
  (gidx r_0.1 q26).bind fun x28 =>
  (gquo (w64 ((w64 (r_0.2 + 1)) - 1)) (r_0.1.length : Int)).bind fun q33 =>
  (grem (gxor (w64 ((w64 ((w64 ((w64 ((w64 (x21.toNat : Int)) * 131)) + (w64 ((w64 (x28.toNat : Int)) * 1117)))) + (w64 ((w64 ((w64 (r_0.2 + 1)) - 1)) * 29)))) + (w64 (q33 * 53)))) (w64 ((w64 ((w64 ((w64 ((w64 ((w64 (x21.toNat : Int)) * 131)) + (w64 ((w64 (x28.toNat : Int)) * 1117)))) + (w64 ((w64 ((w64 (r_0.2 + 1)) - 1)) * 29)))) + (w64 (q33 * 53)))).tdiv 64))) n_1).bind fun q36 =>
  some (q36, (r_0.1, w64 (r_0.2 + 1)))))

noncomputable def M.spec_reader_one (r_0 : (List UInt8) × Int) (list_1 : List Int) : Option (Int × ((List UInt8) × Int)) :=
  (M.spec_reader_pick (r_0.1, r_0.2) (list_1.length : Int)).bind fun r1 =>
  (gidx list_1 r1.1).bind fun x9 =>
  some (x9, (r1.2.1, r1.2.2))

noncomputable def M.spec_newReader (code_0 : List UInt8) : Option (((List UInt8) × Int)) :=
  Option.bind ((bif decide (2000 < (code_0.length : Int)) then
  (gslice code_0 0 2000).bind fun xs3 =>
  some xs3
 else
  some code_0)) fun o1 =>
  some (o1, 0)

noncomputable def M.spec_inRange (n_0 : Int) (low_1 : Int) (high_2 : Int) : Option Bool :=
  (bif decide (low_1 ≤ n_0) then
  some (decide (n_0 ≤ high_2))
 else
  some false)

noncomputable def M.impl_validKey (key_0 : Int) : Option Bool :=
  (bif decide (1 ≤ key_0) then
  some (decide (key_0 ≤ 99))
 else
  some false)

end Go.Vs

namespace Go.Vs

end Go.Vs

namespace Go.Vs

end Go.Vs

namespace Go.Vs

end Go.Vs

namespace Go.Vs

end Go.Vs

namespace Go.Vs

end Go.Vs

namespace Go.Vs

end Go.Vs

namespace Go.Vs

end Go.Vs

namespace Go.Vs

end Go.Vs

namespace Go.Vs

end Go.Vs

namespace Go.Vs

end Go.Vs

namespace Go.Vs

end Go.Vs

namespace Go.Vs

end Go.Vs

namespace Go.Vs

end Go.Vs

namespace Go.Vs

end Go.Vs

namespace Go.Vs

end Go.Vs

namespace Go.Vs

end Go.Vs

namespace Go.Vs

end Go.Vs

namespace Go.Vs

end Go.Vs

namespace Go.Vs

end Go.Vs

namespace Go.Vs

end Go.Vs

namespace Go.Vs

end Go.Vs

namespace Go.Vs

end Go.Vs

namespace Go.Vs

end Go.Vs

namespace Go.Vs

noncomputable def M.spec_shardOf (key_0 : Int) (shards_1 : Int) : Option Int :=
  some (w64 ((w64 (((w64 (389 * key_0)).tmod 1009) * shards_1)).tdiv 1009))

noncomputable def M.spec_ShardOf (key_0 : Int) (shards_1 : Int) : Option Int :=
  Option.bind ((M.spec_inRange key_0 1 99).bind fun r2 =>
  (bif !r2 then
  some true
 else
  (M.spec_inRange shards_1 1 8).bind fun r7 =>
  some (!r7))) fun o1 =>
  (bif o1 then
  some (-1)
 else
  (M.spec_shardOf key_0 shards_1).bind fun r13 =>
  some r13)

noncomputable def M.spec_someShards (r_0 : (List UInt8) × Int) : Option (Int × ((List UInt8) × Int)) :=
  (M.spec_reader_one (r_0.1, r_0.2) ([1, 2, 3, 4, 8, 0, 9, 5] : List Int)).bind fun r5 =>
  some (r5.1, (r5.2.1, r5.2.2))

noncomputable def M.spec_DrawShardOf (code_0 : List UInt8) : Option (Int × Int) :=
  (M.spec_newReader code_0).bind fun r1 =>
  (M.spec_reader_pick (r1.1, r1.2) 99).bind fun r8 =>
  (M.spec_reader_one (r8.2.1, r8.2.2) ([1, 5, 99, 100, 0, w64 (1 + r8.1)] : List Int)).bind fun r18 =>
  (M.spec_someShards (r18.2.1, r18.2.2)).bind fun r24 =>
  some (r18.1, r24.1)

end Go.Vs

namespace Go.Vs

end Go.Vs

namespace Go.Vs

end Go.Vs

namespace Go.Vs

end Go.Vs

namespace Go.Vs

end Go.Vs

namespace Go.Vs

end Go.Vs

namespace Go.Vs

end Go.Vs

namespace Go.Vs

end Go.Vs

namespace Go.Vs

end Go.Vs

namespace Go.Vs

noncomputable def M.impl_validShards (shards_0 : Int) : Option Bool :=
  (bif decide (1 ≤ shards_0) then
  some (decide (shards_0 ≤ 8))
 else
  some false)

noncomputable def M.impl_ShardOf (key_0 : Int) (shards_1 : Int) : Option Int :=
  Option.bind ((M.impl_validKey key_0).bind fun r2 =>
  (bif !r2 then
  some true
 else
  (M.impl_validShards shards_1).bind fun r7 =>
  some (!r7))) fun o1 =>
  (bif o1 then
  some (-1)
 else
  some (w64 ((w64 (((w64 (389 * key_0)).tmod 1009) * shards_1)).tdiv 1009)))

noncomputable def M.laws_FnShardOfSpread (code_0 : List UInt8) : Option Bool :=
  (bif decide (1048576 < (code_0.length : Int)) then
  some true
 else
  (M.spec_DrawShardOf code_0).bind fun r2 =>
  (M.impl_ShardOf r2.1 r2.2).bind fun r6 =>
  Option.bind ((M.spec_ShardOf r2.1 r2.2).bind fun r11 =>
  (bif r6 != r11 then
  some true
 else
  (bif decide (r6 < 0) then
  some true
 else
  some (decide (r2.2 < 2))))) fun o10 =>
  (bif o10 then
  (M.spec_ShardOf r2.1 r2.2).bind fun r19 =>
  some (r6 == r19)
 else
  Option.bind (loopM (fun (s24 : (Bool) × (Int)) => (bif decide (s24.2 ≤ 99) then
  Option.bind ((bif s24.1 then
  some true
 else
  (M.impl_ShardOf s24.2 r2.2).bind fun r29 =>
  some (r29 != r6))) fun o27 =>
  some (.inl (o27, w64 (s24.2 + 1)))
 else
  some (.inr s24.1))) (false, 1)) fun o23 =>
  some o23))

end Go.Vs

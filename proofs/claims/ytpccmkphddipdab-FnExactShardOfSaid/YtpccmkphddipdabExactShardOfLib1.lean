/- What the functions compute. -/
import Derived.Test.YtpccmkphddipdabExactShardOfEng1
set_option linter.unusedVariables false
set_option linter.unusedSimpArgs false
namespace Go.Vs

noncomputable def M.spec_inRange (n_0 : Int) (low_1 : Int) (high_2 : Int) : Option Bool :=
  (bif decide (low_1 ≤ n_0) then
  some (decide (n_0 ≤ high_2))
 else
  some false)

noncomputable def M.impl_validKey (key_0 : Int) : Option Bool :=
  (bif decide (1 ≤ key_0) then
  some (decide (key_0 ≤ 99))
 else
  some false)

end Go.Vs

namespace Go.Vs

end Go.Vs

namespace Go.Vs

end Go.Vs

namespace Go.Vs

end Go.Vs

namespace Go.Vs

end Go.Vs

namespace Go.Vs

end Go.Vs

namespace Go.Vs

end Go.Vs

namespace Go.Vs

end Go.Vs

namespace Go.Vs

end Go.Vs

namespace Go.Vs

end Go.Vs

namespace Go.Vs

end Go.Vs

namespace Go.Vs

end Go.Vs

namespace Go.Vs

end Go.Vs

namespace Go.Vs

end Go.Vs

namespace Go.Vs

end Go.Vs

namespace Go.Vs

end Go.Vs

namespace Go.Vs

end Go.Vs

namespace Go.Vs

end Go.Vs

namespace Go.Vs

end Go.Vs

namespace Go.Vs

end Go.Vs

namespace Go.Vs

end Go.Vs

namespace Go.Vs

end Go.Vs

namespace Go.Vs

end Go.Vs

namespace Go.Vs

end Go.Vs

namespace Go.Vs

noncomputable def M.spec_shardOf (key_0 : Int) (shards_1 : Int) : Option Int :=
  some (w64 ((w64 (((w64 (389 * key_0)).tmod 1009) * shards_1)).tdiv 1009))

noncomputable def M.spec_ShardOf (key_0 : Int) (shards_1 : Int) : Option Int :=
  Option.bind ((M.spec_inRange key_0 1 99).bind fun r2 =>
  (bif !r2 then
  some true
 else
  (M.spec_inRange shards_1 1 8).bind fun r7 =>
  some (!r7))) fun o1 =>
  (bif o1 then
  some (-1)
 else
  (M.spec_shardOf key_0 shards_1).bind fun r13 =>
  some r13)

end Go.Vs

namespace Go.Vs

end Go.Vs

namespace Go.Vs

end Go.Vs

namespace Go.Vs

end Go.Vs

namespace Go.Vs

end Go.Vs

namespace Go.Vs

end Go.Vs

namespace Go.Vs

end Go.Vs

namespace Go.Vs

end Go.Vs

namespace Go.Vs

end Go.Vs

namespace Go.Vs

noncomputable def M.impl_validShards (shards_0 : Int) : Option Bool :=
  (bif decide (1 ≤ shards_0) then
  some (decide (shards_0 ≤ 8))
 else
  some false)

noncomputable def M.impl_ShardOf (key_0 : Int) (shards_1 : Int) : Option Int :=
  Option.bind ((M.impl_validKey key_0).bind fun r2 =>
  (bif !r2 then
  some true
 else
  (M.impl_validShards shards_1).bind fun r7 =>
  some (!r7))) fun o1 =>
  (bif o1 then
  some (-1)
 else
  some (w64 ((w64 (((w64 (389 * key_0)).tmod 1009) * shards_1)).tdiv 1009)))

noncomputable def M.laws_FnExactShardOf (aKey_0 : Int) (aShards_1 : Int) : Option Bool :=
  (M.spec_ShardOf aKey_0 aShards_1).bind fun r1 =>
  (M.impl_ShardOf aKey_0 aShards_1).bind fun r5 =>
  (bif r5 != r1 then
  some false
 else
  some true)

end Go.Vs

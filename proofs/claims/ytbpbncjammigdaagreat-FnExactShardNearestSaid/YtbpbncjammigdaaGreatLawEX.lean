/- For every input the exact law of the nearest ones among the shards returns true, and the input reads as it did. -/
import Derived.Test.YtbpbncjammigdaaGreatAl
import Derived.Test.YtbpbncjammigdaaGreatRowExactShardNearest
import Derived.Test.YtbpbncjammigdaaGreatSX
set_option linter.unusedVariables false
set_option linter.unusedSimpArgs false
namespace Go.Proofs.YtbpbncjammigdaaGreat
theorem CQ:Rows.FnExactShardNearestSaid:=pO Go.Vc.ZU
end Go.Proofs.YtbpbncjammigdaaGreat

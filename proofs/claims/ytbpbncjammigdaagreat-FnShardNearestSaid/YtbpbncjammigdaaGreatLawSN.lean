/- For every string of bytes the law of the nearest ones among shards returns true. -/
import Derived.Test.YtbpbncjammigdaaGreatAl
import Derived.Test.YtbpbncjammigdaaGreatRowShardNearest
import Derived.Test.YtbpbncjammigdaaGreatSX
set_option linter.unusedVariables false
set_option linter.unusedSimpArgs false
namespace Go.Proofs.YtbpbncjammigdaaGreat
theorem I0:Rows.FnShardNearestSaid:=uz Go.Vc.aaM
end Go.Proofs.YtbpbncjammigdaaGreat

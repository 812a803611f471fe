/- For every string of bytes the law of the nearest ones among the shards of a store without an item returns true. -/
import Derived.Test.YtbpbncjammigdaaGreatAl
import Derived.Test.YtbpbncjammigdaaGreatRowShardNearestFilter
import Derived.Test.YtbpbncjammigdaaGreatSX
set_option linter.unusedVariables false
set_option linter.unusedSimpArgs false
namespace Go.Proofs.YtbpbncjammigdaaGreat
theorem DT:Rows.FnShardNearestFilterSaid:=qP Go.Vc.acd
end Go.Proofs.YtbpbncjammigdaaGreat

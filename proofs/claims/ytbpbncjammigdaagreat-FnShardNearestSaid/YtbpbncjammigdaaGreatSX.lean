/- Part of a proof. -/
import Derived.Test.YtbpbncjammigdaaGreatAl
import Derived.Test.YtbpbncjammigdaaGreatSD
import Derived.Test.YtbpbncjammigdaaGreatLz1
set_option linter.unusedVariables false
set_option linter.unusedSimpArgs false
namespace Go.Vc
open Go Go.Proofs Go.Vs
open Go.Cx (hU)
theorem aaM(W0:World)(Φ:Machine->Trace->Prop):XC W0 Φ:=by
 intro ab az dN fQ rq ah ag gj fS r h h1 h2 h3 h4;exact Go.Proofs.Lz.xc (λl s i r h a c=>Go.Vs.xo h) (λl kd at_ k r h a c a' c'=>Go.Vs.uq h) h h1 h2 h3 h4
end Go.Vc

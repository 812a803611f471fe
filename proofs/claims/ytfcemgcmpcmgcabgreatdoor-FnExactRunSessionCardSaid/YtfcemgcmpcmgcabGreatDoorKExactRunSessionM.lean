/- What the functions compute. -/
import Derived.Test.YtfcemgcmpcmgcabGreatDoorExactRunSessionLib1
import Derived.Test.YtfcemgcmpcmgcabGreatDoorExactRunSessionEng2
import Derived.Test.YtfcemgcmpcmgcabGreatDoorExactRunSessionSrt1
import Derived.Shelf.Strconv.Atoi
import Derived.Shelf.Strconv.AtoiErr
import Derived.Shelf.Strings.Split
import Derived.Shelf.Strings.OnBuilder
set_option linter.unusedVariables false
set_option linter.unusedSimpArgs false
namespace Go.Vs



end Go.Vs

/- What the functions compute. -/
import Derived.Test.YtjkpomkijjingaaLibM7
import Derived.Test.YtjkpomkijjingaaVtView
set_option linter.unusedVariables false
set_option linter.unusedSimpArgs false
namespace Go.Vs

noncomputable def M.slices_Reverse_impl_Item_impl_Item (s_0 : List (Int × (List Int) × Int)) : Option ((List (Int × (List Int) × Int))) :=
  Option.bind (loopM (fun (s2 : (List (Int × (List Int) × Int)) × (Int) × (Int)) => (bif decide (s2.2.1 < s2.2.2) then
  (gidx s2.1 s2.2.2).bind fun x6 =>
  (gidx s2.1 s2.2.1).bind fun x16 =>
  (gidx s2.1 s2.2.1).bind fun x26 =>
  (gidx (s2.1.set s2.2.1.toNat (x6.1, x6.2.1, x6.2.2)) s2.2.2).bind fun x35 =>
  some (.inl (((s2.1.set s2.2.1.toNat (x6.1, x6.2.1, x6.2.2)).set s2.2.2.toNat (x16.1, x16.2.1, x16.2.2)), w64 (s2.2.1 + 1), w64 (s2.2.2 - 1)))
 else
  some (.inr s2.1))) (s_0, 0, w64 ((s_0.length : Int) - 1))) fun o1 =>
  some o1

end Go.Vs

/- A byte of a string. -/
import Derived.Test.YtcgkbgidfilodaaVtView
set_option linter.unusedVariables false
set_option linter.unusedSimpArgs false
namespace Go.Vs
open Go

def gsidx (bs : List UInt8) (i : Int) : Option Int := if 0 ≤ i then (bs[i.toNat]?).map fun b => (b.toNat : Int) else none
section
variable {P : Program} {H : Array Obj} {n : Nat} {ρ : Nat → Value} {d : Option Nat} {ty T : TypeId} {pos : String} {af : Array Edge} {gd : Option (Nat × Bool)}
theorem bytes_get {bs : List UInt8} {i : Nat} : (⟨bs.toArray⟩ : ByteArray)[i]? = bs[i]? := by
  rw [getElem?_def, getElem?_def]
  by_cases h : i < bs.length
  · rw [dif_pos h, dif_pos (by simpa [ByteArray.size] using h)]
    rfl
  · rw [dif_neg h, dif_neg (by simpa [ByteArray.size] using h)]
theorem rv_sidx {bs : List UInt8} {x y : Operand} {a e : Int} {k : IntKind} (hT : P.underlying T = some .string) (hx : ev n ρ x = .string ⟨bs.toArray⟩) (hy : ev n ρ y = .int k a) (hg : gsidx bs a = some e) :
    RunV P H n ρ ⟨d, .index T x y, ty, pos, af, gd⟩ (.int .u8 e) := fun w _ => by
  unfold gsidx at hg
  split at hg
  · rename_i h0
    cases hb : bs[a.toNat]? with
    | none => rw [hb] at hg; cases hg
    | some b =>
      rw [hb] at hg
      have he := Option.some.inj hg
      have hb' : (⟨bs.toArray⟩ : ByteArray)[a.toNat]? = some b := bytes_get.trans hb
      simp [execOp, hx, hy, Instr.index, asIntOf, underlying, hT, h0, hb', ← he]
  · cases hg
end
end Go.Vs

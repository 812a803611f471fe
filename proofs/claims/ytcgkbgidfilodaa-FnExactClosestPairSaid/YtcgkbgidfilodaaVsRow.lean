/- From a contract of a law over bytes to its row. -/
import Derived.Test.YtcgkbgidfilodaaVtMan
import Derived.ProofKit
import Derived.SizedLaws
set_option linter.unusedVariables false
set_option linter.unusedSimpArgs false
namespace Go.Vs
open Go Go.ChangeShapes Go.WideShapes Go.ChangeAt Go.RowKit

theorem Md.below {S : BS} {σ σ' : St} (m : Md S σ σ') (hS : ∀ b, ¬ S b) : Below σ.w.heap.size σ.w σ'.w :=
  ⟨m.os, m.tape, m.output, m.size, fun k hk => m.block k hk (hS k)⟩
theorem cov_nil : ∀ b, ¬ cov [] b := fun _ h => h
theorem cov_ro {α : Type} [Rp α] {el : Nat} {v : Value} {xs : List α} {L : List Ch} (h : ∀ b, ¬ cov L b) : ∀ b, ¬ cov (Ch.ro el v xs :: L) b := fun b hb => hb.elim (fun h => h) (h b)
theorem all_ro {α : Type} [Rp α] {el : Nat} {v : Value} {xs : List α} {L : List Ch} {σ : St} (h : RS el σ v xs) (k : allAs σ L) : allAs σ (Ch.ro el v xs :: L) := ⟨h, k⟩
theorem apart_ro {α : Type} [Rp α] {el : Nat} {v : Value} {xs : List α} {L : List Ch} (k : apart L) : apart (Ch.ro el v xs :: L) := ⟨fun _ h => h.elim, k⟩

/-- The bytes that a slice holds. -/
def bytesOf (zs : List Int) : List UInt8 := zs.map fun n => n.toNat.toUInt8
theorem byte_back {n : Int} (h : (Lit.int .u8 n).wf = true) : ((n.toNat.toUInt8).toNat : Int) = n := by
  have h1 : IntKind.u8.min = 0 := rfl
  have h2 : IntKind.u8.max = 255 := rfl
  simp only [Lit.wf, Bool.and_eq_true, decide_eq_true_eq, h1, h2] at h
  have : n.toNat % 256 = n.toNat := Nat.mod_eq_of_lt (by omega)
  rw [Nat.toUInt8, UInt8.toNat_ofNat', this]
  omega

/-- A world in which a slice of bytes came in, with its bytes published. -/
theorem bytes_in {W : World} {b off len cap : Nat} {zs : List Int} (hb : b < W.heap.size) (hl : len ≤ cap) (hz : zs.length = len)
    (hc : ∀ i, i < zs.length → W.cell? ⟨b, off + i, none⟩ = some (.int .u8 (zs.getD i 0))) (hw : ∀ n ∈ zs, (Lit.int .u8 n).wf = true) :
    ∃ σ : St, σ.w = W ∧ RS 0 σ (Sl (some ⟨b, off, none⟩) (bytesOf zs) cap) (bytesOf zs) := by
  refine ⟨⟨W, fun c => if c = b then off + len else 0, fun c hc' => if_neg (by omega)⟩, rfl, .inr ⟨b, off, cap, rfl, Nat.zero_le _, by simp [bytesOf]; omega, ?_, fun i hi => ?_⟩⟩
  · show off + (bytesOf zs).length * 1 ≤ (if b = b then off + len else 0)
    rw [if_pos rfl]; simp [bytesOf]; omega
  · have hi' : i < zs.length := by simpa [bytesOf] using hi
    refine ⟨[.int .u8 ((bytesOf zs)[i].toNat)], rfl, fun j hj => ?_⟩
    have hj0 : j = 0 := by simpa using hj
    subst hj0
    have := hc i hi'
    show W.cell? ⟨b, off + i * 1 + 0, none⟩ = _
    rw [Nat.mul_one, Nat.add_zero, this]
    have hm : zs.getD i 0 = zs[i] := by simp [List.getD, hi']
    simp only [hm, bytesOf, List.getElem_map, List.getElem_cons_zero]
    rw [byte_back (hw _ (List.getElem_mem _))]
theorem nil_in (W : World) (a : Option Addr) (c : Nat) : ∃ σ : St, σ.w = W ∧ RS 0 σ (Sl a ([] : List UInt8) c) ([] : List UInt8) := ⟨⟨W, fun _ => 0, fun _ _ => rfl⟩, rfl, .inl ⟨⟨a, c, rfl⟩, rfl⟩⟩
end Go.Vs

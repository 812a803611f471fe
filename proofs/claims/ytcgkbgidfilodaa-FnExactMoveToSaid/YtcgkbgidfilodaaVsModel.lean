/- What a function computes, as a Lean function that may fail; loops. -/
import Derived.Test.YtcgkbgidfilodaaVsSl3
set_option linter.unusedVariables false
set_option linter.unusedSimpArgs false
namespace Go.Vs
open Go

theorem bind_some {α β : Type} {o : Option α} {f : α → Option β} {r : β} (h : o.bind f = some r) : ∃ x, o = some x ∧ f x = some r := Option.bind_eq_some_iff.1 h
theorem bif_t {α : Type} {b : Bool} {x y z : α} (hb : b = true) (h : (bif b then x else y) = z) : x = z := by subst hb; exact h
theorem bif_f {α : Type} {b : Bool} {x y z : α} (hb : b = false) (h : (bif b then x else y) = z) : y = z := by subst hb; exact h
def selim {α β γ : Type} (f : α → γ) (g : β → γ) : α ⊕ β → γ
  | .inl a => f a
  | .inr b => g b
theorem selim_l {α β γ : Type} {f : α → γ} {g : β → γ} {a : α} {z : γ} (h : selim f g (.inl a) = z) : f a = z := h
theorem selim_r {α β γ : Type} {f : α → γ} {g : β → γ} {a : β} {z : γ} (h : selim f g (.inr a) = z) : g a = z := h

def gquo (a b : Int) : Option Int := if b = 0 then none else some (w64 (a.tdiv b))
def grem (a b : Int) : Option Int := if b = 0 then none else some (a.tmod b)
theorem gquo_some {a b r : Int} (h : gquo a b = some r) : b ≠ 0 ∧ r = w64 (a.tdiv b) := by
  unfold gquo at h; split at h
  · cases h
  · exact ⟨by assumption, (Option.some.inj h).symm⟩
theorem grem_some {a b r : Int} (h : grem a b = some r) : b ≠ 0 ∧ r = a.tmod b := by
  unfold grem at h; split at h
  · cases h
  · exact ⟨by assumption, (Option.some.inj h).symm⟩
section
variable {P : Program} {H : Array Obj} {n : Nat} {ρ : Nat → Value} {d : Option Nat} {ty T T' : TypeId} {pos : String} {af : Array Edge} {gd : Option (Nat × Bool)} {x y : Operand} {a b r : Int}
theorem rv_quoG (h : gquo a b = some r) (hx : ev n ρ x = I a) (hy : ev n ρ y = I b) : RunV P H n ρ ⟨d, .binOp .quo T x y T', ty, pos, af, gd⟩ (I r) := by
  obtain ⟨h0, rfl⟩ := gquo_some h
  exact rv_quo hx hy h0
theorem rv_remG (h : grem a b = some r) (hx : ev n ρ x = I a) (hy : ev n ρ y = I b) : RunV P H n ρ ⟨d, .binOp .rem T x y T', ty, pos, af, gd⟩ (I r) := by
  obtain ⟨h0, rfl⟩ := grem_some h
  exact rv_rem hx hy h0
end
/-- The first k of a slice, as an array. -/
def garr {α : Type} (k : Nat) (xs : List α) : Option (List α) := if k ≤ xs.length then some (xs.take k) else none
theorem garr_some {α : Type} {k : Nat} {xs r : List α} (h : garr k xs = some r) : k ≤ xs.length ∧ r = xs.take k := by
  unfold garr at h; split at h
  · exact ⟨by assumption, (Option.some.inj h).symm⟩
  · cases h
theorem arr_take {H : Array Obj} {b o : Nat} {xs : List Int} {k : Nat} (h : ∀ j, (hj : j < xs.length) → HCell H b (o + j) = some (I xs[j])) : ∀ j, (hj : j < (List.map I (xs.take k)).length) → HCell H b (o + j) = some (List.map I (xs.take k))[j] := by
  intro j hj
  rw [List.length_map, List.length_take] at hj
  rw [h j (by omega)]
  simp
theorem arr_fits {xs ys : List Int} {k : Nat} (h1 : xs.length = k) (h2 : ys.length = k) : 0 + (List.map I xs).length ≤ (List.map I ys).length := by simp; omega
/-- A cell of a list is set. -/
def gset {α : Type} (xs : List α) (a : Int) (x : α) : Option (List α) := if 0 ≤ a ∧ a.toNat < xs.length then some (xs.set a.toNat x) else none

def loopN {S R : Type} (f : S → Option (S ⊕ R)) : Nat → S → Option R
  | 0, _ => none
  | n + 1, s => (f s).bind (selim (fun s' => loopN f n s') (fun r => some r))
theorem loopN_mono {S R : Type} (f : S → Option (S ⊕ R)) : ∀ (n m : Nat) (s : S) (r : R), n ≤ m → loopN f n s = some r → loopN f m s = some r
  | 0, _, _, _, _, h => by cases h
  | n + 1, 0, _, _, hm, _ => by omega
  | n + 1, m + 1, s, r, hm, h => by
    obtain ⟨o, ho, h⟩ := bind_some h
    rw [loopN, ho]
    cases o with
    | inl s' => exact loopN_mono f n m s' r (by omega) h
    | inr t => exact h
open Classical in
/-- A loop: what it comes to, if it ends. -/
noncomputable def loopM {S R : Type} (f : S → Option (S ⊕ R)) (s : S) : Option R := if h : ∃ r n, loopN f n s = some r then some h.choose else none
theorem loopM_of {S R : Type} {f : S → Option (S ⊕ R)} {n : Nat} {s : S} {r : R} (h : loopN f n s = some r) : loopM f s = some r := by
  have hx : ∃ r n, loopN f n s = some r := ⟨r, n, h⟩
  unfold loopM
  rw [dif_pos hx]
  obtain ⟨m, hm⟩ := hx.choose_spec
  have h1 := loopN_mono f n (max n m) s r (by omega) h
  have h2 := loopN_mono f m (max n m) s _ (by omega) hm
  rw [h1] at h2
  exact h2.symm
theorem loopM_some {S R : Type} {f : S → Option (S ⊕ R)} {s : S} {r : R} (h : loopM f s = some r) : ∃ n, loopN f n s = some r := by
  unfold loopM at h
  split at h
  · rename_i hx
    obtain ⟨n, hn⟩ := hx.choose_spec
    exact ⟨n, (Option.some.inj h) ▸ hn⟩
  · cases h
/-- One round. -/
theorem loopM_eq {S R : Type} (f : S → Option (S ⊕ R)) (s : S) : loopM f s = (f s).bind (selim (fun s' => loopM f s') (fun r => some r)) := by
  cases hf : f s with
  | none =>
    cases h : loopM f s with
    | none => rfl
    | some r =>
      obtain ⟨n, hn⟩ := loopM_some h
      cases n with
      | zero => cases hn
      | succ n => rw [loopN, hf] at hn; cases hn
  | some o =>
    cases o with
    | inr r => exact loopM_of (n := 1) (by rw [loopN, hf]; rfl)
    | inl s' =>
      show _ = loopM f s'
      cases h : loopM f s' with
      | some r =>
        obtain ⟨n, hn⟩ := loopM_some h
        exact loopM_of (n := n + 1) (by rw [loopN, hf]; exact hn)
      | none =>
        cases h' : loopM f s with
        | none => rfl
        | some r =>
          obtain ⟨n, hn⟩ := loopM_some h'
          cases n with
          | zero => cases hn
          | succ n =>
            rw [loopN, hf] at hn
            have := loopM_of (f := f) (n := n) (s := s') (r := r) hn
            rw [h] at this; cases this
/-- A loop that counts: by an invariant with what is left. -/
theorem loopM_ind {S R : Type} {f : S → Option (S ⊕ R)} (J : S → Prop) (μ : S → Nat) (Z : R → Prop) (step : ∀ s, J s → (∃ s', f s = some (.inl s') ∧ J s' ∧ μ s' < μ s) ∨ ∃ r, f s = some (.inr r) ∧ Z r) :
    ∀ (s : S), J s → ∃ r, loopM f s = some r ∧ Z r := by
  have key : ∀ k s, μ s = k → J s → ∃ r, loopM f s = some r ∧ Z r := by
    intro k
    induction k using Nat.strongRecOn with
    | _ k ih =>
      intro s hk hJ
      rcases step s hJ with ⟨s', h1, h2, h3⟩ | ⟨r, h1, h2⟩
      · obtain ⟨r, h4, h5⟩ := ih _ (hk ▸ h3) s' rfl h2
        exact ⟨r, by rw [loopM_eq, h1]; exact h4, h5⟩
      · exact ⟨r, by rw [loopM_eq, h1]; rfl, h2⟩
  exact fun s hJ => key _ s rfl hJ

section
variable {P : Program} {Q : Exit → Act → World → Prop} {a : Act} {w : World}
theorem wp_loopM {S R : Type} {c : Code} (f : S → Option (S ⊕ R)) {s0 : S} {r : R} (hr : loopM f s0 = some r) (J : S → Act → World → Prop) (h0 : J s0 a w)
    (round : ∀ s a w o, J s a w → f s = some o → (∀ t, o = .inr t → t = r) → c.wp P (Exit.then (fun a' w' => ∃ s', o = .inl s' ∧ J s' a' w') Q) a w) : (Code.loop c).wp P Q a w := by
  obtain ⟨n, hn⟩ := loopM_some hr
  refine wp_loop_ghost (fun k a w => ∃ s, loopN f k s = some r ∧ J s a w) n ⟨s0, hn, h0⟩ ?_
  rintro k a w ⟨s, hk, hJ⟩
  cases k with
  | zero => cases hk
  | succ k =>
    obtain ⟨o, ho, hk⟩ := bind_some hk
    refine wp_mono (round s a w o hJ ho (by rintro t rfl; exact Option.some.inj hk)) ?_
    intro e a' w' hq
    cases e with
    | normal =>
      obtain ⟨s', rfl, hJ'⟩ := hq
      exact ⟨k, Nat.lt_succ_self k, s', hk, hJ'⟩
    | exit id => exact hq
    | goto l => exact hq
    | ret => exact hq
    | panic ch => exact hq
    | outgrown => exact hq

theorem q_then {K : Act → World → Prop} (h : K a w) : Exit.then K Q .normal a w := h
theorem q_then_x {K : Act → World → Prop} {i : Nat} (h : Q (.exit i) a w) : Exit.then K Q (.exit i) a w := h
theorem q_then_r {K : Act → World → Prop} (h : Q .ret a w) : Exit.then K Q .ret a w := h
theorem q_blk {id : Nat} (h : Q .normal a w) : Exit.inBlock id Q .normal a w := h
theorem q_blk_hit {id : Nat} (h : Q .normal a w) : Exit.inBlock id Q (.exit id) a w := by simp only [Exit.inBlock, if_true]; exact h
theorem q_blk_x {id i : Nat} (hi : i ≠ id) (h : Q (.exit i) a w) : Exit.inBlock id Q (.exit i) a w := by simp only [Exit.inBlock, hi, if_false]; exact h
theorem q_blk_r {id : Nat} (h : Q .ret a w) : Exit.inBlock id Q .ret a w := h
theorem c_blk {id : Nat} {c : Code} (h : c.wp P (Exit.inBlock id Q) a w) : (Code.block id c).wp P Q a w := wp_block h
theorem c_seq {x y : Code} (h : x.wp P (Exit.then (y.wp P Q) Q) a w) : (Code.seq x y).wp P Q a w := wp_seq h
theorem c_skip (h : Q .normal a w) : Code.skip.wp P Q a w := wp_skip h
theorem c_ret (h : Q .ret a w) : Code.ret.wp P Q a w := wp_ret h
theorem c_exit {i : Nat} (h : Q (.exit i) a w) : (Code.exit i).wp P Q a w := wp_exit h
theorem c_cut {c : Code} (J : Exit → Act → World → Prop) (h : c.wp P J a w) (k : ∀ e a w, J e a w → Q e a w) : c.wp P Q a w := wp_mono h k
theorem Oper.upon_cut {o : Oper} {next next' : Act → World → Prop} {J : Exit → Act → World → Prop} (hn : ∀ a w, next a w → next' a w) (hk : ∀ e a w, J e a w → Q e a w) {r : Result Next} (h : o.upon P a next J r) : o.upon P a next' Q r := by
  cases r with
  | ok x w' =>
    cases x
    case value => exact hn _ _ h
    case skip => exact hn _ _ h
    case defer => exact hn _ _ h
    case enter =>
      refine Calls.mono h ?_
      intro e w' he
      cases e with
      | returned v => exact hn _ _ he
      | panicked c => exact hk _ _ _ he
      | outgrown => obtain ⟨a', w'', h'⟩ := he; exact ⟨a', w'', hk _ _ _ h'⟩
    case row => exact Rows.mono h fun _ _ h' => hn _ _ h'
    all_goals exact h
  | halt hh w' =>
    cases hh
    case panic => exact hk _ _ _ h
    all_goals exact h
theorem w_cut {ops : Array Oper} (J : Exit → Act → World → Prop) {l : List Oper} (h : wpList P ops J l a w) (k : ∀ e a w, J e a w → Q e a w) : wpList P ops Q l a w := by
  induction l generalizing a w with
  | nil => exact k _ _ _ h
  | cons o l ih =>
    unfold wpList at h ⊢
    split
    · rename_i hw
      rw [if_pos hw] at h
      rcases h with h | ⟨h1, a', w', h2⟩
      · exact .inl (Oper.upon_cut (fun a w h => ih h) k h)
      · exact .inr ⟨h1, a', w', k _ _ _ h2⟩
    · rename_i hw
      rw [if_neg hw] at h
      exact ih h
theorem w_end {ops : Array Oper} (h : Q .normal a w) : wpList P ops Q [] a w := h
end
end Go.Vs
namespace Go.Vs
open Go
/-! ## Frames at joins -/
def updL (ρ : Nat → Value) : List (Nat × Value) → Nat → Value
  | [], t => ρ t
  | (d, v) :: r, t => bif Nat.beq t d then v else updL ρ r t
def agree (ρ : Nat → Value) : List (Nat × Value) → Prop
  | [] => True
  | (d, v) :: r => ρ d = v ∧ agree ρ r
theorem updL_self {ρ : Nat → Value} : ∀ {l : List (Nat × Value)}, agree ρ l → updL ρ l = ρ
  | [], _ => rfl
  | (d, v) :: r, ⟨h1, h2⟩ => by
    funext t
    rw [updL, updL_self h2]
    by_cases h : t = d
    · subst h; rw [beq_t]; exact h1.symm
    · rw [beq_f h]; rfl
theorem fr_join {n : Nat} {ρ : Nat → Value} {l : List (Nat × Value)} (h : agree ρ l) : fr n ρ = fr n (updL ρ l) := by rw [updL_self h]

/-! ## Blocks apart -/
def Df (x y : Option Nat) : Prop := ∀ b, x = some b → y ≠ some b
theorem Df.re {a b : Option Addr} {n n' m m' c c' d d' : Nat} (h : Df (blk (.slice a n c)) (blk (.slice b m d))) : Df (blk (.slice a n' c')) (blk (.slice b m' d')) := by
  cases a <;> cases b <;> exact h
theorem Df.reL {a : Option Addr} {n n' c c' : Nat} {y : Option Nat} (h : Df (blk (.slice a n c)) y) : Df (blk (.slice a n' c')) y := by
  cases a <;> exact h
theorem Df.reR {a : Option Addr} {n n' c c' : Nat} {y : Option Nat} (h : Df y (blk (.slice a n c))) : Df y (blk (.slice a n' c')) := by
  cases a <;> exact h
theorem Df.symm {x y : Option Nat} (h : Df x y) : Df y x := fun b hy hx => h b hx hy
theorem Ow.mod' {el : Nat} {α : Type} [Rp α] {σ σ' : St} {lo : Nat} {v : Value} {xs : List α} {S : Option Nat} (h : Ow σ lo el v xs) (m : Mod S σ σ') (hd : Df (blk v) S) : Ow σ' lo el v xs := by
  rcases h with h | ⟨b, o, c, C, T, rfl, h2, h3, h4, h5, h6, h7⟩
  · exact .inl h
  · have hb : b < σ.size := lt_of_block h3
    have hS : S ≠ some b := hd b rfl
    have e1 := m.oth.block b hb hS
    exact .inr ⟨b, o, c, C, T, rfl, h2, e1.trans h3, h4, h5, (m.oth.vis b hb hS).trans h6, fun i hi => (h7 i hi).same m.ext e1⟩
theorem Bx.mod' {σ σ' : St} {b : Nat} {cs : List Value} {S : Option Nat} (h : Bx σ b cs) (m : Mod S σ σ') (hd : Df (some b) S) : Bx σ' b cs := h.oth m.oth (hd b rfl)
theorem Ow.df {el : Nat} {α : Type} [Rp α] {σ : St} {lo : Nat} {v : Value} {xs : List α} (h : Ow σ lo el v xs) : Df (blk v) (some σ.size) := fun b hb e => by
  cases e; exact absurd (h.lt _ hb) (Nat.lt_irrefl _)
theorem Bx.df {σ : St} {b : Nat} {cs : List Value} (h : Bx σ b cs) : Df (some b) (some σ.size) := fun i hb e => by
  cases e; cases hb; exact absurd h.lt (Nat.lt_irrefl _)
theorem Ow.df' {el : Nat} {α : Type} [Rp α] {σ : St} {lo b : Nat} {v : Value} {xs : List α} (h : Ow σ lo el v xs) (e : σ.size = b) : Df (blk v) (some b) := e ▸ h.df
theorem Bx.df' {σ : St} {b c : Nat} {cs : List Value} (h : Bx σ b cs) (e : σ.size = c) : Df (some b) (some c) := e ▸ h.df
theorem Df.ge {x : Option Nat} {lo : Nat} (h : ∀ b, x = some b → b < lo) {y : Option Nat} (hy : ∀ b, y = some b → lo ≤ b) : Df x y := fun b hb e => by
  have := h b hb; have := hy b e; omega
theorem Ow.ltb {el : Nat} {α : Type} [Rp α] {σ : St} {lo : Nat} {v : Value} {xs : List α} (h : Ow σ lo el v xs) : ∀ b, blk v = some b → b < σ.size := h.lt
theorem Bx.ltb {σ : St} {b : Nat} {cs : List Value} (h : Bx σ b cs) : ∀ i, some b = some i → i < σ.size := by rintro i ⟨⟩; exact h.lt
theorem Df.app {x y y' : Option Nat} {s : Nat} (hd : Df x y) (hlt : ∀ b, x = some b → b < s) (h : y' = y ∨ ∀ b, y' = some b → s ≤ b) : Df x y' := by
  rcases h with rfl | h
  · exact hd
  · exact Df.ge hlt h
theorem Ow.pub' {el : Nat} {α : Type} [Rp α] {σ : St} {lo : Nat} {v : Value} {xs : List α} (h : Ow σ lo el v xs) (hel : el ≤ lo) : ∃ σ' : St, σ'.w = σ.w ∧ Mod (blk v) σ σ' ∧ RS el σ' v xs := by
  have hl := h.lt
  rcases h with ⟨rfl, rfl⟩ | ⟨b, o, c, C, T, rfl, h2, h3, h4, h5, h6, h7⟩
  · exact ⟨σ, rfl, Mod.refl _ _, RS.nil⟩
  · have hb := hl b rfl
    refine ⟨σ.pub b (o + xs.length * Rp.sz α) hb, rfl, ⟨rfl, rfl, rfl, Nat.le_refl _, St.pub_ext hb, ⟨fun _ _ _ => rfl, fun i _ hne => ?_⟩⟩, .inr ⟨b, o, c, rfl, Nat.le_trans hel h2, h4, ?_, fun i hi => (h7 i hi).same (St.pub_ext hb) rfl⟩⟩
    · show (if i = b then _ else _) = _
      rw [if_neg (by intro e; subst e; exact hne rfl)]
    · show _ ≤ (if b = b then _ else _)
      rw [if_pos rfl]; omega
theorem Ow.low' {el el' : Nat} {α : Type} [Rp α] {σ : St} {lo : Nat} {v : Value} {xs : List α} (h : Ow σ lo el v xs) (hl : el' ≤ el) : Ow σ lo el' v xs := by
  rcases h with h | ⟨b, o, c, C, T, h1, h2, h3, h4, h5, h6, h7⟩
  · exact .inl h
  · exact .inr ⟨b, o, c, C, T, h1, h2, h3, h4, h5, h6, fun i hi => (h7 i hi).low hl⟩
theorem Rd.low {el el' : Nat} {α : Type} [Rp α] {σ : St} {v : Value} {xs : List α} (h : Rd el σ v xs) (hl : el' ≤ el) : Rd el' σ v xs := by
  rcases h with h | ⟨b, o, c, h1, h7⟩
  · exact .inl h
  · exact .inr ⟨b, o, c, h1, fun i hi => (h7 i hi).low hl⟩
/-- Data without memory of its own. -/
class Sc (α : Type) [Rp α] : Prop where
  sc : ∀ {lo lo' : Nat} {σ : St} {cs : List Value} {x : α}, Rp.rp lo σ cs x → Rp.rp lo' σ cs x
instance : Sc Int := ⟨fun h => h⟩
instance : Sc Bool := ⟨fun h => h⟩
instance : Sc UInt8 := ⟨fun h => h⟩
instance : Sc ByteArray := ⟨fun h => h⟩
instance {α β : Type} [Rp α] [Rp β] [Sc α] [Sc β] : Sc (α × β) := ⟨by rintro _ _ _ _ _ ⟨c1, c2, rfl, h1, h2⟩; exact ⟨c1, c2, rfl, Sc.sc h1, Sc.sc h2⟩⟩
theorem At.sc {α : Type} [Rp α] [Sc α] {lo lo' : Nat} {σ : St} {b o : Nat} {x : α} (h : At lo σ b o x) : At lo' σ b o x := by
  obtain ⟨cs, h1, h2⟩ := h
  exact ⟨cs, Sc.sc h1, h2⟩
theorem Ow.sc {α : Type} [Rp α] [Sc α] {el el' : Nat} {σ : St} {lo : Nat} {v : Value} {xs : List α} (h : Ow σ lo el v xs) : Ow σ lo el' v xs := by
  rcases h with h | ⟨b, o, c, C, T, h1, h2, h3, h4, h5, h6, h7⟩
  · exact .inl h
  · exact .inr ⟨b, o, c, C, T, h1, h2, h3, h4, h5, h6, fun i hi => (h7 i hi).sc⟩
theorem Rd.sc {α : Type} [Rp α] [Sc α] {el el' : Nat} {σ : St} {v : Value} {xs : List α} (h : Rd el σ v xs) : Rd el' σ v xs := by
  rcases h with h | ⟨b, o, c, h1, h7⟩
  · exact .inl h
  · exact .inr ⟨b, o, c, h1, fun i hi => (h7 i hi).sc⟩
theorem size_le {σ σ' : St} {a : Nat} (h : a ≤ σ.size) (hw : σ'.w = σ.w) : a ≤ σ'.size := by unfold St.size at *; rw [hw]; exact h
theorem ltb_size {σ σ' : St} {x : Option Nat} (h : ∀ b, x = some b → b < σ.size) (hw : σ'.w = σ.w) : ∀ b, x = some b → b < σ'.size := fun b hb => size_le (h b hb) hw
theorem Mod.own {S : Option Nat} {a b c : St} {v : Value} (h : Mod S a b) (k : Mod (blk v) b c) (hg : ∀ i, blk v = .some i → a.size ≤ i) : Mod S a c := h.step k (.inr (.inr hg))
theorem Mod.self {S : Option Nat} {a b c : St} (h : Mod S a b) (k : Mod S b c) : Mod S a c := h.trans k
theorem Rd.at {el : Nat} {α : Type} [Rp α] {σ : St} {v : Value} {xs : List α} {a : Int} {e : α} {b o : Nat} (h : Rd el σ v xs) (hg : gidx xs a = some e) (hi : Ix v a (Rp.sz α) b o) : At el σ b o e := by
  obtain ⟨h0, h1, h2⟩ := gidx_some hg
  obtain ⟨ob, m, c, rfl, g0, g1, rfl⟩ := hi.it
  rcases h with ⟨_, rfl⟩ | ⟨b, o, c, hv, hc⟩
  · simp at h1
  · cases hv; exact h2 ▸ hc _ h1
theorem RS.at {el : Nat} {α : Type} [Rp α] {σ : St} {v : Value} {xs : List α} {a : Int} {e : α} {b o : Nat} (h : RS el σ v xs) (hg : gidx xs a = some e) (hi : Ix v a (Rp.sz α) b o) : At el σ b o e := h.rd.at hg hi
theorem Ow.at {el : Nat} {α : Type} [Rp α] {σ : St} {lo : Nat} {v : Value} {xs : List α} {a : Int} {e : α} {b o : Nat} (h : Ow σ lo el v xs) (hg : gidx xs a = some e) (hi : Ix v a (Rp.sz α) b o) : At el σ b o e := h.rd.at hg hi
theorem gidx_lt {α : Type} {xs : List α} {a : Int} {e : α} {m : Nat} (h : gidx xs a = some e) (hm : xs.length = m) : 0 ≤ a ∧ a.toNat < m := by
  obtain ⟨h0, h1, _⟩ := gidx_some h
  exact ⟨h0, hm ▸ h1⟩
theorem Bx.arr {σ : St} {b : Nat} {xs : List Int} {a x : Int} (h : Bx σ b (xs.map I)) (hx : gidx xs a = some x) : HCell σ.w.heap b (0 + a.toNat * 1) = some (I x) := by
  obtain ⟨h0, h1, h2⟩ := gidx_some hx
  rw [Nat.mul_one]
  exact h.cell _ (by simp [h1, h2])
theorem arr_set (xs : List Int) (k : Nat) (v : Int) : wrL (xs.map I) (0 + k * 1) [I v] = (xs.set k v).map I := by
  simp [wrL, List.map_set]
theorem wrL_len (vs : List Value) : ∀ (cs : List Value) (k : Nat), (wrL cs k vs).length = cs.length := by
  induction vs with
  | nil => intro cs k; rfl
  | cons v r ih => intro cs k; rw [wrL, ih]; simp
theorem wrL_all (vs : List Value) : ∀ (cs pre : List Value), cs.length = vs.length → wrL (pre ++ cs) pre.length vs = pre ++ vs := by
  induction vs with
  | nil => intro cs pre h; have : cs = [] := List.eq_nil_of_length_eq_zero h; subst this; rfl
  | cons v r ih =>
    intro cs pre h
    cases cs with
    | nil => simp at h
    | cons c cs =>
      rw [wrL]
      have e : (pre ++ c :: cs).set pre.length v = (pre ++ [v]) ++ cs := by simp
      have := ih cs (pre ++ [v]) (by simpa using h)
      rw [e, show pre.length + 1 = (pre ++ [v]).length by simp, this]
      simp
theorem arr_all {xs ys : List Int} {k : Nat} (h1 : xs.length = k) (h2 : ys.length = k) : wrL (List.map I ys) 0 (List.map I xs) = List.map I xs := by
  have := wrL_all (List.map I xs) (List.map I ys) [] (by simp; omega)
  simpa using this
theorem Bx.cast {σ : St} {b : Nat} {cs cs' : List Value} (h : Bx σ b cs) (e : cs = cs') : Bx σ b cs' := e ▸ h
theorem set_len {xs : List Int} {k m : Nat} {v : Int} (h : xs.length = m) : (xs.set k v).length = m := by rw [List.length_set]; exact h
theorem arr_cells {H : Array Obj} {b : Nat} {xs : List Int} (h : ∀ j, (hj : j < (xs.map I).length) → HCell H b (0 + j) = some (xs.map I)[j]) : ∀ j, (hj : j < (xs.map I).length) → HCell H b (0 + j) = some (xs.map I)[j] := h
end Go.Vs

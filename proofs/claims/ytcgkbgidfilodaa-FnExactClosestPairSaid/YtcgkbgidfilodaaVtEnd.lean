/- Structs, arrays, results; own slices that are lent to a call. -/
import Derived.Test.YtcgkbgidfilodaaVtRg
set_option linter.unusedVariables false
set_option linter.unusedSimpArgs false
namespace Go.Vs
open Go

section
variable {P : Program} {H : Array Obj} {n : Nat} {ρ : Nat → Value} {d : Option Nat} {ty T : TypeId} {pos : String} {af : Array Edge} {gd : Option (Nat × Bool)}
theorem rv_build {fs : Array Field} {parts : Array (Nat × Operand)} {ps : List (Nat × Value)} {cs : Array Value} {z : Value} {s bt : Nat} {places : Array (Nat × Nat)} (hT : P.underlying T = some (.struct fs)) (hi : TI P T z s bt)
    (hpl : ∀ w, (fs.mapM (fun f => do pure (f.offset, ← sizeOf f.type)) : Sem (Array (Nat × Nat))).run P w = .ok places w) (hp : parts.toList.map (fun p => (p.1, ev n ρ p.2)) = ps)
    (hfill : Instr.fill (places[·]?) z.cells ps = some cs) : RunV P H n ρ ⟨d, .build T parts, ty, pos, af, gd⟩ (.agg cs) := fun w _ => by
  have hpp : (parts.map fun (i, x) => (i, ev n ρ x)) = ps.toArray := by rw [← hp, ← Array.toList_map]
  simp only [execOp, hpp, Instr.build, underlying, hT, run_zero hi, Sem.run_bind, run_program, Result.andThen_ok, Sem.run_pure, hpl, hfill]
theorem rv_idx {E m : Nat} {xs : List Int} {x y : Operand} {a e : Int} {z : Value} {bt : Nat} (hT : P.underlying T = some (.array m E)) (hi : TI P E z 1 bt) (hE : P.underlying E = some (.int .i64))
    (hx : ev n ρ x = .agg (xs.map I).toArray) (hy : ev n ρ y = I a) (hg : gidx xs a = some e) (hl : xs.length = m) : RunV P H n ρ ⟨d, .index T x y, ty, pos, af, gd⟩ (I e) := by
  obtain ⟨h0, h1, h2⟩ := gidx_some hg
  exact rv_index_arr hT hi hE hx hy h0 (by omega) (by rw [List.getElem?_eq_getElem h1, h2])
theorem rv_slice_arrL {E bl k : Nat} {z : Value} {s bt : Nat} {x : Operand} {xs : List Int} (hT : P.underlying T = some (.array k E)) (hi : TI P E z s bt) (hk : 0 < k) (hx : ev n ρ x = pt bl 0) (hl : xs.length = k) :
    RunV P H n ρ ⟨d, .slice T x none none none, ty, pos, af, gd⟩ (Sl (some ⟨bl, 0, none⟩) xs k) := by
  have := rv_slice_arr (P := P) (H := H) (dst := d) (ty := ty) (pos := pos) (af := af) (gd := gd) hT hi hk hx
  unfold Sl; rw [hl]; exact this
theorem results_fr3 {fn : Func} {t u s : Nat} {v v' v2 : Value} (h : fn.results = #[.tmp t, .tmp u, .tmp s]) (hl : look n ρ t = v) (hl' : look n ρ u = v') (hl2 : look n ρ s = v2) (w : World) : (results fn (fr n ρ).tmps).run P w = .ok (.tuple #[v, v', v2]) w := by
  have h1 : (fr n ρ).tmps[t]?.getD undef = v := by have := look_eq n ρ t; rw [hl] at this; simpa using this
  have h2 : (fr n ρ).tmps[u]?.getD undef = v' := by have := look_eq n ρ u; rw [hl'] at this; simpa using this
  have h3 : (fr n ρ).tmps[s]?.getD undef = v2 := by have := look_eq n ρ s; rw [hl2] at this; simpa using this
  simp [results, h, h1, h2, h3]
theorem results_fr0 {fn : Func} (h : fn.results = #[]) (w : World) : (results fn (fr n ρ).tmps).run P w = .ok (.tuple #[]) w := results_none h _ _ _
end

theorem sl_len {α β : Type} {a : Option Addr} {xs : List α} {ys : List β} {c : Nat} (h : xs.length = ys.length) : Sl a xs c = Sl a ys c := by unfold Sl; rw [h]
theorem Ow.relen {el : Nat} {α : Type} [Rp α] {σ : St} {lo : Nat} {a : Option Addr} {c : Nat} {ys xs : List α} (h : Ow σ lo el (Sl a ys c) xs) (e : ys.length = xs.length) : Ow σ lo el (Sl a xs c) xs := by
  rw [← sl_len e]; exact h


section
variable {P : Program} {n : Nat} {ρ : Nat → Value} {σ : St}
theorem run_cellRes {T : TypeId} {D : TypeDesc} {cs : List Value} {z : Value} {s bt b : Nat} (hT : P.underlying T = some D) (hD : (match D with | .struct _ => false | .array _ _ => false | _ => true) = false)
    (hi : TI P T z s bt) (hlen : cs.length = s) (hB : ∀ j, (hj : j < cs.length) → HCell σ.w.heap b (0 + j) = some cs[j]) : (loadVar T ⟨b, 0, none⟩).run P σ.w = .ok (.agg cs.toArray) σ.w := by
  have hag : (isAgg T).run P σ.w = .ok true σ.w := by
    simp only [isAgg, underlying, Sem.run_bind, run_program, Result.andThen_ok, hT, Sem.run_pure]
    cases D <;> simp_all
  have hld := run_loadCellsFrom (P := P) σ.w b 0 s 0 cs [] hlen (fun j hj => by rw [← HCell_eq]; simpa using hB j hj)
  simp [loadVar, hag, run_typeInfo hi, loadCells, hld]
/-- A list of results. -/
def ResOk (P : Program) (n : Nat) (ρ : Nat → Value) (w : World) : List ResultVar → List Value → Prop
  | [], [] => True
  | .tmp t :: r, v :: vs => look n ρ t = v ∧ ResOk P n ρ w r vs
  | .cell t T :: r, v :: vs => (∃ a, look n ρ t = .pointer (some a) ∧ (loadVar T a).run P w = .ok v w) ∧ ResOk P n ρ w r vs
  | _, _ => False
theorem res_nil {w : World} : ResOk P n ρ w [] [] := trivial
theorem res_tmp {w : World} {t : Nat} {r : List ResultVar} {v : Value} {vs : List Value} (h : look n ρ t = v) (k : ResOk P n ρ w r vs) : ResOk P n ρ w (.tmp t :: r) (v :: vs) := ⟨h, k⟩
theorem res_cell {w : World} {t T b : Nat} {r : List ResultVar} {v : Value} {vs : List Value} (h : look n ρ t = pt b 0) (hl : (loadVar T ⟨b, 0, none⟩).run P w = .ok v w) (k : ResOk P n ρ w r vs) : ResOk P n ρ w (.cell t T :: r) (v :: vs) := ⟨⟨_, h, hl⟩, k⟩
def resF (D : Array Value) : ResultVar → Sem Value
  | .tmp t => pure (D.getD t undef)
  | .cell a t => do loadVar t (← asAddr (D.getD a undef))
theorem run_res {w : World} : ∀ (rs : List ResultVar) (vs : List Value), ResOk P n ρ w rs vs → (rs.mapM (resF (fr n ρ).tmps)).run P w = .ok vs w := by
  intro rs
  induction rs with
  | nil => intro vs h; cases vs with
    | nil => rfl
    | cons => exact h.elim
  | cons r rs ih =>
    intro vs h
    cases vs with
    | nil => cases r <;> exact h.elim
    | cons v vs =>
      cases r with
      | tmp t =>
        obtain ⟨h1, h2⟩ := h
        have e : (resF (fr n ρ).tmps (.tmp t)).run P w = .ok v w := by
          simp only [resF, look_eq, h1, Sem.run_pure]
        simp only [List.mapM_cons, Sem.run_bind, e, Result.andThen_ok, ih vs h2, Sem.run_pure]
      | cell t T =>
        obtain ⟨⟨a, h1, hl⟩, h2⟩ := h
        have e : (resF (fr n ρ).tmps (.cell t T)).run P w = .ok v w := by
          simp only [resF, look_eq, h1, asAddr, Sem.run_bind, Sem.run_pure, Result.andThen_ok, hl]
        simp only [List.mapM_cons, Sem.run_bind, e, Result.andThen_ok, ih vs h2, Sem.run_pure]
def resV : List Value → Value
  | [v] => v
  | vs => .tuple vs.toArray
theorem results_ok {fn : Func} {w : World} {rs : List ResultVar} {vs : List Value} {v : Value} (h : fn.results = rs.toArray) (hk : ResOk P n ρ w rs vs) (hv : resV vs = v) : (results fn (fr n ρ).tmps).run P w = .ok v w := by
  have hr := run_res rs vs hk
  have hm : (fn.results.mapM (resF (fr n ρ).tmps)).run P w = .ok vs.toArray w := by
    rw [h, List.mapM_toArray]
    show ((List.mapM (resF (fr n ρ).tmps) rs) >>= fun a => pure (List.toArray a) : Sem (Array Value)).run P w = _
    rw [Sem.run_bind, hr]; rfl
  have hres : results fn (fr n ρ).tmps = (do let vs ← fn.results.mapM (resF (fr n ρ).tmps); pure (if h : vs.size = 1 then vs[0] else .tuple vs)) := by
    unfold results
    congr 1
  rw [hres, Sem.run_bind, hm]
  simp only [Result.andThen_ok, Sem.run_pure]
  rw [← hv]
  match vs with
  | [] => rfl
  | [v] => rfl
  | v :: u :: r => simp [resV]
end
end Go.Vs

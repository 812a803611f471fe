/- A slice that the library sorts. -/
import Derived.Test.YtfcemgcmpcmgcabGreatDoorExactRunSessionEng1
import Derived.Test.YtfcemgcmpcmgcabGreatDoorExactRunSessionEng2
import Derived.Shelf.SlSortCmp.NoneTotal
import Derived.Test.YtfcemgcmpcmgcabGreatDoorExactRunSessionLib1
import Derived.Lib.SplitLaws
import Derived.Lib.AtoiErrMem
import Derived.Lib.AppendIntMem
import Derived.Lib.Atoi
import Derived.Lib.Join
import Derived.Lib.LaidTab
import Derived.Shelf.Strconv.Itoa3
import Derived.Shelf.Vars
import Derived.LaidMore
import Derived.SizedLaws
import Derived.Shelf.Strings.Builder1
import Derived.Lib.AppendStr
import Derived.WalkKit
set_option linter.unusedVariables false
set_option linter.unusedSimpArgs false
namespace Go.Vs
open Go Go.Proofs Go.Shelf

theorem Md.grown {σ σ' : St} (h : Md (fun _ => False) σ σ') (hl : ¬ σ.loud) : ∃ q os, σ'.w = Go.Sort.grow (σ.w.drewN q) os := by
  refine ⟨σ'.w.drawn - σ.w.drawn, σ'.w.heap.extract σ.w.heap.size σ'.w.heap.size, ?_⟩
  have h1 : σ'.w.heap = σ.w.heap ++ σ'.w.heap.extract σ.w.heap.size σ'.w.heap.size := by
    apply Array.ext_getElem?
    intro i
    by_cases hi : i < σ.w.heap.size
    · rw [h.block i hi id, Array.getElem?_append_left hi]
    · rw [Array.getElem?_append_right (by omega), Array.getElem?_extract]
      have hs : σ.w.heap.size ≤ σ'.w.heap.size := h.size
      by_cases hj : i < σ'.w.heap.size
      · rw [if_pos (by omega)]; congr 1; omega
      · rw [if_neg (by omega), Array.getElem?_eq_none (by omega)]
  have h2 : σ.w.drawn + (σ'.w.drawn - σ.w.drawn) = σ'.w.drawn := by have := h.dr.resolve_left hl; omega
  have e1 := h.os; have e2 := h.tape; have e3 := h.output
  unfold Go.Sort.grow World.drewN
  cases hw : σ'.w with
  | mk hp tp dr os out =>
    rw [hw] at h1 h2 e1 e2 e3
    simp only at h1 h2 e1 e2 e3 ⊢
    rw [← h1, h2, e1, e2, e3]

section
theorem sw_heap {E : Type} [Inhabited E] (enc : E → List Value) (k : Nat) (w : World) (blk off m : Nat) (dk : Array E) (os : Array Obj) :
    (sortWorldK enc k w blk off m dk os).heap = w.heap.modify blk (Go.Sort.onCells (Go.Sort.putCells id off (Go.Sort.flatK enc k dk))) ++ os := rfl
theorem sw_other {E : Type} [Inhabited E] {enc : E → List Value} {k : Nat} {w : World} {blk off m : Nat} {dk : Array E} {os : Array Obj} {b : Nat} (hb : b < w.heap.size) (hne : b ≠ blk) :
    (sortWorldK enc k w blk off m dk os).heap[b]? = w.heap[b]? := by
  rw [sw_heap, Array.getElem?_append_left (by simpa using hb), Array.getElem?_modify, if_neg (Ne.symm hne)]
theorem sw_row {E : Type} [Inhabited E] {enc : E → List Value} {k : Nat} {w : World} {blk off m : Nat} {dk : Array E} {os : Array Obj} {C : Array Value} {T : TypeId} {fr : Nat × Nat} (h : w.heap[blk]? = some (.cells C T fr)) :
    ∃ C', (sortWorldK enc k w blk off m dk os).heap[blk]? = some (.cells C' T fr) ∧ C'.size = C.size := by
  have hb := lt_of_block h
  refine ⟨Go.Sort.putCells id off (Go.Sort.flatK enc k dk) C, ?_, by simp [Go.Sort.putCells]⟩
  rw [sw_heap, Array.getElem?_append_left (by simpa using hb), Array.getElem?_modify, if_pos rfl, h]
  rfl
theorem sw_size {E : Type} [Inhabited E] {enc : E → List Value} {k : Nat} {w : World} {blk off m : Nat} {dk : Array E} {os : Array Obj} : w.heap.size ≤ (sortWorldK enc k w blk off m dk os).heap.size := by
  rw [sw_heap]; simp
def St.inW (σ : St) (w : World) (h : σ.w.heap.size ≤ w.heap.size) : St := ⟨w, fun b => if b < σ.size then σ.vis b else 0, fun b hb => if_neg (by unfold St.size; omega), σ.loud⟩
theorem St.inW_vis {σ : St} {w : World} {h : σ.w.heap.size ≤ w.heap.size} {b : Nat} : (σ.inW w h).vis b = σ.vis b := by
  show (if b < σ.size then σ.vis b else 0) = _
  split
  · rfl
  · exact (σ.ok b (by unfold St.size at *; omega)).symm
theorem St.inW_ext {σ : St} {w : World} {h : σ.w.heap.size ≤ w.heap.size} {blk : Nat} (h0 : σ.vis blk = 0) (hh : ∀ b, b < σ.size → b ≠ blk → w.heap[b]? = σ.w.heap[b]?) : Ext σ (σ.inW w h) := by
  refine ⟨h, fun b ho => ?_, fun b => Nat.le_of_eq St.inW_vis.symm⟩
  by_cases hb : b < σ.size
  · by_cases hne : b = blk
    · subst hne; rw [h0] at ho; omega
    · exact hh b hb hne
  · rw [σ.ok b (by unfold St.size at hb; omega)] at ho; omega

variable {P : Program} {ρr : Ren} {α : Type} [Rp α]
theorem sort_cal2 (L : SlLaysF0.n6 P ρr) (aE : ∀ w, (isAgg (ρr.t 24)).run P w = .ok true w) (zE : ∀ w, (Go.sizeOf (ρr.t 24)).run P w = .ok (Rp.sz α) w) {xs : List α} {a : Option Addr} {c : Nat} {g : FuncId} {cb : List Value} {B : List Ch} (cmp : α → α → Int) (hL : Lc cmp xs) (hn : xs.length ≤ 1000000)
    (hg : ∃ fn c, P.funcs[g]? = some fn ∧ (fn.name == "runtime.NumGoroutine") = false ∧ fn.body = some c)
    (Pub : St → Prop) (hE : ∀ σ σ', Ext σ σ' → Pub σ → Pub σ') (hB : ∀ σ, allAs σ B → apart B → ∃ σp, Pb (cov B) σ σp ∧ Pub σp)
    (hc : ∀ σ, ¬ σ.loud → Pub σ → ∀ x ∈ xs, ∀ y ∈ xs, ∀ cx cy, Rp.rp 0 σ cx x → Rp.rp 0 σ cy y → Calls P g ([Value.agg cx.toArray, Value.agg cy.toArray] ++ cb).toArray σ.w fun e w' => e = .returned (I (cmp x y)) ∧ ∃ q os, w' = Go.Sort.grow (σ.w.drewN q) os) :
    Cal2 P (ρr.f 6) [Sl a xs c, .func (.func g) #[] cb.toArray] (Ch.own 0 0 (Sl a xs c) xs :: B) (fun _ v L' => v = .tuple #[] ∧ L' = Ch.own 0 0 (Sl a (sortL cmp xs) c) (sortL cmp xs) :: B) := by
  obtain ⟨nm, hnm, hfn⟩ := id L.f6
  refine ⟨⟨_, _, hfn, hnm, rfl⟩, fun σ m hm H => ?_⟩
  by_cases hxs : xs = []
  · subst hxs
    have h0 := AnyF.slices_SortFunc_none L a c (.func (.func g) #[] cb.toArray) σ.w
    refine h0.mono ?_
    rintro e w' ⟨rfl, rfl⟩
    refine ⟨_, σ, _, rfl, rfl, ⟨rfl, rfl⟩, ?_⟩
    have e0 : sortL cmp ([] : List α) = [] := by simp [sortL]
    rw [e0]; exact H
  rcases (H.head : Ow σ 0 0 (Sl a xs c) xs) with ⟨_, h0⟩ | ⟨b, o, c', C, T, hv, h2, h3, h4, h5, h6, h7⟩
  · exact absurd h0 hxs
  obtain ⟨rfl, rfl⟩ : a = some ⟨b, o, none⟩ ∧ c = c' := by
    simp only [Sl, Value.slice.injEq, true_and] at hv; exact hv
  obtain ⟨σp, pp, hPub⟩ := hB σ H.all.2 H.ap.2
  have hbB : ¬ cov B b := H.ap.1 b rfl
  have hbs : b < σ.w.heap.size := lt_of_block h3
  have hp0 : σp.vis b = 0 := (pp.vis b hbB).trans h6
  have hpw : σp.w = σ.w := pp.w
  -- the elements with their cells
  let E := {p : List Value × α // p.2 ∈ xs ∧ Rp.rp 0 σ p.1 p.2}
  let enc : E → List Value := fun e => e.1.1
  let el : Fin xs.length → E := fun i => ⟨(Classical.choose (h7 i.1 i.2), xs[i.1]), List.getElem_mem _, (Classical.choose_spec (h7 i.1 i.2)).1⟩
  have hel : ∀ i, (hi : i < xs.length) → ∀ j, (hj : j < (enc (el ⟨i, hi⟩)).length) → σ.cell b (o + i * Rp.sz α + j) = some (enc (el ⟨i, hi⟩))[j] := fun i hi => (Classical.choose_spec (h7 i hi)).2
  have hpos : 0 < xs.length := List.length_pos_iff.2 hxs
  haveI : Inhabited E := ⟨el ⟨0, hpos⟩⟩
  let d : Array E := Array.ofFn el
  have hds : d.size = xs.length := by simp [d]
  have hdi : ∀ i, (hi : i < xs.length) → d[i]! = el ⟨i, hi⟩ := fun i hi => by
    rw [getElem!_pos d i (by rw [hds]; exact hi)]; simp [d]
  have hdl : d.toList.map (fun e => e.1.2) = xs := by
    apply List.ext_getElem (by simp [hds])
    intro i h1 h2
    simp [d, el]
  have hk : ∀ e : E, (enc e).length = Rp.sz α := fun e => Rp.len e.2.2
  have h1 : ∀ e : E, ∀ v ∈ enc e, v.oneCell' = true := fun e v hv => by
    have := Rp.one e.2.2 v hv
    cases v <;> first | rfl | cases this
  have hk0 : 0 < Rp.sz α := Rp.pos
  let cf : E → E → Int := fun x y => cmp x.1.2 y.1.2
  have hO : Go.Sort.SWO (ltOf cf) := ⟨fun x => by
      simp only [ltOf, cf, decide_eq_false_iff_not]; exact hL.irrefl _ x.2.1,
    fun x y z hx hy => by
      simp only [ltOf, cf, decide_eq_true_eq] at *; exact hL.trans _ x.2.1 _ y.2.1 _ z.2.1 hx hy,
    fun x y z hx hy => by
      simp only [ltOf, cf, decide_eq_false_iff_not] at *; exact hL.letrans z.2.1 y.2.1 x.2.1 hy hx⟩
  have hH : Go.Sort.HoldsK enc (Rp.sz α) σ.w b o d := by
    intro j hj
    rw [Go.Sort.size_flatK, hds] at hj
    have hi : j / Rp.sz α < xs.length := Nat.div_lt_of_lt_mul (by rw [Nat.mul_comm]; exact hj)
    have hm : j % Rp.sz α < (enc (el ⟨j / Rp.sz α, hi⟩)).length := by rw [hk]; exact Nat.mod_lt _ hk0
    refine ⟨?_, ?_⟩
    · have := hel _ hi _ hm
      rw [Go.Sort.get_flatK _ _ _ _ (by rw [hds]; exact hj), hdi _ hi, getElem!_pos (enc (el ⟨j / Rp.sz α, hi⟩)) (j % Rp.sz α) hm]
      have e : o + j = o + j / Rp.sz α * Rp.sz α + j % Rp.sz α := by
        have := Nat.div_add_mod j (Rp.sz α)
        rw [Nat.mul_comm] at this; omega
      rw [e]; exact this
    · unfold World.frozen?
      simp only [h3]
      simp
  obtain ⟨fn, cd, hf1, hf2, hf3⟩ := hg
  have hcmp : CmpLays P g cb.toArray enc (Rp.sz α) cf b o d.size σ.w := by
    intro mm oss dk hdk x y
    have hsz : σp.w.heap.size ≤ (sortWorldK enc (Rp.sz α) σ.w b o mm dk oss).heap.size := by rw [hpw]; exact sw_size
    have hEx : Ext σp (σp.inW _ hsz) := St.inW_ext hp0 fun b' hb' hne => by
      rw [hpw]; exact sw_other (by unfold St.size at hb'; rw [hpw] at hb'; exact hb') hne
    have hx : Ext σ (σp.inW _ hsz) := pp.md.ext.trans hEx
    have hEm := hEx.trans (Ext.mute _)
    have := hc _ (fun h => h) (hE _ _ hEm hPub) x.1.2 x.2.1 y.1.2 y.2.1 x.1.1 y.1.1 (Rp.ext (hx.trans (Ext.mute _)) x.2.2) (Rp.ext (hx.trans (Ext.mute _)) y.2.2)
    have e0 : (#[Value.agg (enc x).toArray, Value.agg (enc y).toArray] ++ cb.toArray : Array Value) = ([Value.agg x.1.1.toArray, Value.agg y.1.1.toArray] ++ cb).toArray := by simp [enc]
    rw [e0]; exact this
  have hs := AnyQ.slices_SortFunc L (Rp.sz α) aE zE enc hk h1 cf hO g cb.toArray b o c d σ.w (enters_of hf1 hf2 hf3) hcmp hH hbs (by rw [hds]; omega)
  rw [hds] at hs
  refine hs.mono ?_
  rintro e w' ⟨rfl, d', n, os, hp, hsd, rfl⟩
  have hd' : d'.size = xs.length := hp.1.trans hds
  have hperm : d'.toList.Perm d.toList := by
    have := hp.2.2
    simp only [← hds] at this
    have e1 : (d'.extract 0 d.size).toList = d'.toList := by simp [← hp.1]
    have e2 : (d.extract 0 d.size).toList = d.toList := by simp
    rwa [e1, e2] at this
  have hr : d'.toList.map (fun e => e.1.2) = sortL cmp xs := by
    refine sortL_uniq hL (by have := hperm.map (fun e : E => e.1.2); rwa [hdl] at this) ?_
    rw [List.pairwise_map, List.pairwise_iff_getElem]
    intro i j hi hj hij
    have hi' : i < d'.size := by simpa using hi
    have hj' : j < d'.size := by simpa using hj
    have := hsd i j (Nat.zero_le _) hij (by omega)
    rw [getElem!_pos d' i hi', getElem!_pos d' j hj'] at this
    simpa [ltOf, cf] using this
  have hlen : (sortL cmp xs).length = xs.length := sortL_len
  have hex : Ext σ (σ.inW (sortWorldK enc (Rp.sz α) σ.w b o n d' os) sw_size) := St.inW_ext h6 fun b' hb' hne => sw_other hb' hne
  have hmd : Md (fun i => i = b) σ (σ.inW (sortWorldK enc (Rp.sz α) σ.w b o n d' os) sw_size) :=
    ⟨rfl, rfl, rfl, .inr (Nat.le_add_right _ _), rfl, hex, fun i hi hne => sw_other hi hne, fun i _ _ => St.inW_vis⟩
  refine ⟨_, σ.inW (sortWorldK enc (Rp.sz α) σ.w b o n d' os) sw_size, _, rfl, rfl, ⟨rfl, rfl⟩, ⟨hmd.mono fun i hi => .inl (by subst hi; rfl), ⟨?_, allAs_md H.all.2 hmd fun i hi he => hbB (he ▸ hi)⟩, H.ap, fun i hi _ => hi⟩⟩
  obtain ⟨C', h3', hC'⟩ := sw_row (enc := enc) (k := Rp.sz α) (off := o) (m := n) (dk := d') (os := os) h3
  refine .inr ⟨b, o, c, C', T, rfl, Nat.zero_le _, h3', by omega, by omega, St.inW_vis.trans h6, fun i hi => ?_⟩
  have hi' : i < d'.size := by omega
  have hx : (sortL cmp xs)[i] = d'[i].1.2 := by
    have : ∀ l : List α, l = d'.toList.map (fun e => e.1.2) → ∀ h : i < l.length, l[i] = d'[i].1.2 := by rintro l rfl h; simp
    exact this _ hr.symm hi
  rw [hx]
  refine ⟨d'[i].1.1, Rp.ext hex d'[i].2.2, fun j hj => ?_⟩
  have hjk : j < Rp.sz α := by rw [← Rp.len d'[i].2.2]; exact hj
  have hHs := holdsK_sortWorldK_c enc (Rp.sz α) σ.w b o d d' n os hH hbs hp.1
  have hij : i * Rp.sz α + j < d'.size * Rp.sz α := by
    have : (i + 1) * Rp.sz α ≤ d'.size * Rp.sz α := Nat.mul_le_mul_right _ hi'
    rw [Nat.add_mul, Nat.one_mul] at this; omega
  have h8 := (hHs (i * Rp.sz α + j) (by rw [Go.Sort.size_flatK]; exact hij)).1
  rw [Go.Sort.get_flatK _ _ _ _ hij] at h8
  have e1 : (i * Rp.sz α + j) / Rp.sz α = i := by rw [Nat.mul_comm, Nat.mul_add_div hk0, Nat.div_eq_of_lt hjk]; rfl
  have e2 : (i * Rp.sz α + j) % Rp.sz α = j := by rw [Nat.mul_comm, Nat.mul_add_mod]; exact Nat.mod_eq_of_lt hjk
  rw [e1, e2, getElem!_pos d' i hi', getElem!_pos _ j hj] at h8
  rw [← Nat.add_assoc] at h8
  exact h8
end

section
variable {α : Type} [Rp α]
omit [Rp α] in
theorem Cal2.conv {P : Program} {f : FuncId} {args : List Value} {pre : List Ch} {post post' : Nat → Value → List Ch → Prop} (hc : Cal2 P f args pre post) (k : ∀ m v L, post m v L → ∃ L', post' m v L' ∧ ∀ {S0 : BS} {σ0 σ : St}, Hp S0 σ0 σ L → Hp S0 σ0 σ L') : Cal2 P f args pre post' :=
  ⟨hc.fn, fun σ m hm H => (hc.runs σ m hm H).mono (by
    rintro e w' ⟨v, σ', L, rfl, rfl, hp, H'⟩
    obtain ⟨L', h1, h2⟩ := k m v L hp
    exact ⟨v, σ', L', rfl, rfl, h1, h2 H'⟩)⟩
end
end Go.Vs

namespace Go.Vs
open Go Go.Proofs Go.Shelf

section
variable {P : Program} {f : FuncId} {args : List Value} {G : Gp} {σ : St} {w' : World}
theorem below_md (hl : σ.loud) (h : RowKit.Below σ.w.heap.size σ.w w') : Md (fun _ => False) σ (σ.inW w' h.size) := by
  have hE : Ext σ (σ.inW w' h.size) := by
    refine ⟨h.size, fun b ho => ?_, fun b => Nat.le_of_eq St.inW_vis.symm⟩
    by_cases hb : b < σ.size
    · exact h.block b hb
    · rw [σ.ok b (by unfold St.size at hb; omega)] at ho; omega
  exact ⟨h.os, h.tape, h.output, .inl hl, rfl, hE, fun i hi _ => h.block i hi, fun i _ _ => St.inW_vis⟩

theorem lib_cal2 {pre : List Ch} {v : Value} (hf : ∃ fn c, P.funcs[f]? = some fn ∧ (fn.name == "runtime.NumGoroutine") = false ∧ fn.body = some c) (i : Nat) (hG : nth pre i = some (Ch.gw G))
    (hc : ∀ σ, (Ch.gw G).«as» σ → allAs σ pre → Calls P f args.toArray σ.w fun e w' => e = .returned v ∧ RowKit.Below σ.w.heap.size σ.w w') : Cal2 P f args pre (fun _ u L => u = v ∧ L = []) := by
  refine ⟨hf, fun σ m hm H => ?_⟩
  have hg : (Ch.gw G).«as» σ := H.get hG
  refine (hc σ hg H.all).mono ?_
  rintro e w' ⟨rfl, hB⟩
  exact ⟨_, σ.inW w' hB.size, [], rfl, rfl, ⟨rfl, rfl⟩, ⟨(below_md hg.1 hB).mono fun i h => h.elim, trivial, trivial, fun b hb => hb.elim⟩⟩
theorem lib_cal2' {pre : List Ch} {p : Value → Prop} (hf : ∃ fn c, P.funcs[f]? = some fn ∧ (fn.name == "runtime.NumGoroutine") = false ∧ fn.body = some c) (i : Nat) (hG : nth pre i = some (Ch.gw G))
    (hc : ∀ σ, (Ch.gw G).«as» σ → allAs σ pre → Calls P f args.toArray σ.w fun e w' => ∃ v, e = .returned v ∧ p v ∧ RowKit.Below σ.w.heap.size σ.w w') : Cal2 P f args pre (fun _ u L => p u ∧ L = []) := by
  refine ⟨hf, fun σ m hm H => ?_⟩
  have hg : (Ch.gw G).«as» σ := H.get hG
  refine (hc σ hg H.all).mono ?_
  rintro e w' ⟨v, rfl, hp, hB⟩
  exact ⟨_, σ.inW w' hB.size, [], rfl, rfl, ⟨hp, rfl⟩, ⟨(below_md hg.1 hB).mono fun i h => h.elim, trivial, trivial, fun b hb => hb.elim⟩⟩
end

section
variable {P : Program} {f : FuncId} {G : Gp}
theorem itoa_cal2 (hf : ∃ fn c, P.funcs[f]? = some fn ∧ (fn.name == "runtime.NumGoroutine") = false ∧ fn.body = some c)
    (hc : ∀ (n : Int) (w : World), G.p w → -9223372036854775808 ≤ n → n ≤ 9223372036854775807 → Calls P f #[.int .i64 n] w fun e w' => e = .returned (.string ⟨(Lib.itoa n).toArray⟩) ∧ ∃ k os, w' = Go.Sort.grow (w.drewN k) os)
    {n : Int} {r : ByteArray} (h : M.itoa n = some r) : Cal2 P f [(I n)] [Ch.gw G] (fun _ v L => v = (.string r) ∧ L = []) := by
  unfold M.itoa at h
  split at h
  · rename_i hn
    cases h
    refine lib_cal2 hf 0 rfl fun σ hg _ => (hc n σ.w hg.2.1 hn.1 hn.2).mono ?_
    rintro e w' ⟨rfl, k, os, rfl⟩
    exact ⟨rfl, Lib.below_grow _ _ (Nat.le_refl _) _ _⟩
  · cases h
theorem atoi_cal2 {T : TypeId} (hf : ∃ fn c, P.funcs[f]? = some fn ∧ (fn.name == "runtime.NumGoroutine") = false ∧ fn.body = some c)
    (hok : ∀ (s : ByteArray) (n : Int) (w : World), s.size ≤ 18 → Lib.atoi s.data.toList = some n → Calls P f #[.string s] w fun e w' => e = .returned (.tuple #[.int .i64 n, .nilIface]) ∧ RowKit.Below w.heap.size w w')
    (herr : ∀ (s : ByteArray) (w : World), G.p w → s.size ≤ 18 → Lib.atoi s.data.toList = none → Calls P f #[.string s] w fun e w' => ∃ N, e = .returned (.tuple #[.int .i64 0, .iface T (.pointer (some ⟨N, 0, none⟩))]) ∧ RowKit.Below w.heap.size w w')
    {s : ByteArray} {r : Int × Int} (h : M.atoi s = some r) : Cal2 P f [(.string s)] [Ch.gw G] (fun _ v L => ∃ ga : Nat → Addr, v = (.tuple #[(I r.1), (er T ga r.2)]) ∧ L = []) := by
  unfold M.atoi at h
  split at h
  · rename_i hs
    cases h
    refine (lib_cal2' (p := fun v => ∃ ga : Nat → Addr, v = (.tuple #[(I (match Lib.atoi s.data.toList with | some n => ((n, 0) : Int × Int) | none => (0, 1)).1), (er T ga (match Lib.atoi s.data.toList with | some n => ((n, 0) : Int × Int) | none => (0, 1)).2)])) hf 0 rfl fun σ hg _ => ?_).conv ?_
    · cases ha : Lib.atoi s.data.toList with
      | some n =>
        refine (hok s n σ.w hs ha).mono ?_
        rintro e w' ⟨rfl, hB⟩
        exact ⟨_, rfl, ⟨fun _ => ⟨0, 0, none⟩, rfl⟩, hB⟩
      | none =>
        refine (herr s σ.w hg.2.1 hs ha).mono ?_
        rintro e w' ⟨N, rfl, hB⟩
        exact ⟨_, rfl, ⟨fun _ => ⟨N, 0, none⟩, rfl⟩, hB⟩
    · rintro m v L ⟨⟨ga, hv⟩, hL⟩
      exact ⟨L, ⟨ga, hv, hL⟩, fun H => H⟩
  · cases h
theorem ssplit_cal2 {T : TypeId} (hf : ∃ fn c, P.funcs[f]? = some fn ∧ (fn.name == "runtime.NumGoroutine") = false ∧ fn.body = some c)
    (hc : ∀ (s sep : ByteArray) (w : World), G.p w → s.size < 4294967281 → 1 ≤ sep.size → Calls P f #[.string s, .string sep] w fun e w' =>
      e = .returned (.slice (some ⟨w.heap.size, 0, none⟩) (Lib.countB s sep + 1) (Lib.countB s sep + 1)) ∧ w' = w.alloc (.cells ((Lib.splitB sep 0 (Lib.countB s sep) s).map Value.string).toArray T))
    {s sep : ByteArray} {r : List ByteArray} (h : M.ssplit s sep = some r) : Cal2 P f [(.string s), (.string sep)] [Ch.gw G] (fun n0 v L => ∃ (a : Option Addr), ∃ (c : Nat), v = (Sl a r c) ∧ L = [Ch.own n0 n0 (Sl a r c) r]) := by
  unfold M.ssplit at h
  split at h
  · rename_i hs
    cases h
    refine ⟨hf, fun σ m hm H => ?_⟩
    have hg : (Ch.gw G).«as» σ := H.head
    refine (hc s sep σ.w hg.2.1 hs.1 hs.2).mono ?_
    have hlen : (Lib.splitB sep 0 (Lib.countB s sep) s).length = Lib.countB s sep + 1 := Lib.splitB_all sep hs.2 0 _ s rfl
    rintro e w' ⟨rfl, rfl⟩
    refine ⟨_, σ.new (.cells ((Lib.splitB sep 0 (Lib.countB s sep) s).map Value.string).toArray T (0, 0)) 0, _, rfl, rfl, ⟨some ⟨σ.w.heap.size, 0, none⟩, Lib.countB s sep + 1, ?_, rfl⟩, Hp.one ((St.new_mod _ _ _).md.mono fun b hb => by cases hb) ?_ ?_⟩
    · show Value.slice _ _ _ = Value.slice _ _ _
      rw [hlen]
    · refine .inr ⟨σ.w.heap.size, 0, _, _, T, rfl, hm, St.new_new _ _ _, by omega, by simp [hlen]; exact Nat.le_of_eq (Nat.mul_one _), St.new_vis _ _ _, fun i hi => ⟨[.string _], rfl, fun j hj => ?_⟩⟩
      have : j = 0 := by simpa using hj
      subst this
      unfold St.cell World.cell?
      rw [show (σ.new (.cells ((Lib.splitB sep 0 (Lib.countB s sep) s).map Value.string).toArray T (0, 0)) 0).w.heap[σ.w.heap.size]? = _ from St.new_new _ _ _]
      show ((Lib.splitB sep 0 (Lib.countB s sep) s).map Value.string).toArray[0 + i * 1 + 0]? = _
      simp [hi]
    · intro b hb hlt
      cases hb
      exact absurd hlt (Nat.lt_irrefl _)
  · cases h
theorem sjoin_cal2 (hf : ∃ fn c, P.funcs[f]? = some fn ∧ (fn.name == "runtime.NumGoroutine") = false ∧ fn.body = some c)
    (hn : ∀ (a : Option Addr) (c : Nat) (sep : ByteArray) (w : World), Calls P f #[.slice a 0 c, .string sep] w fun e w' => e = .returned (.string ⟨#[]⟩) ∧ w' = w)
    (hc : ∀ (bk o c : Nat) (xs : List ByteArray) (sep : ByteArray) (w : World), (∀ (j : Nat) x, xs[j]? = some x → w.cell? ⟨bk, o + j, none⟩ = some (.string x)) → bk < w.heap.size → xs.length ≤ 140737488355328 → xs.length ≤ c →
      (Lib.join (xs.map (·.data.toList)) sep.data.toList).length ≤ 140737488355328 →
      Calls P f #[.slice (some ⟨bk, o, none⟩) xs.length c, .string sep] w fun e w' => e = .returned (.string ⟨(Lib.join (xs.map (·.data.toList)) sep.data.toList).toArray⟩) ∧ RowKit.Below w.heap.size w w')
    {xs : List ByteArray} {sep r : ByteArray} {a : Option Addr} {c el : Nat} (h : M.sjoin xs sep = some r) : Cal2 P f [(Sl a xs c), (.string sep)] [Ch.ro el (Sl a xs c) xs, Ch.gw G] (fun _ v L => v = (.string r) ∧ L = []) := by
  unfold M.sjoin at h
  split at h
  · rename_i hs
    cases h
    refine lib_cal2 hf 1 rfl fun σ hg hA => ?_
    have hR : RS el σ (Sl a xs c) xs := hA.1
    by_cases hx : xs = []
    · subst hx
      refine (hn a c sep σ.w).mono ?_
      rintro e w' ⟨rfl, rfl⟩
      exact ⟨rfl, RowKit.Below.refl _ _⟩
    · rcases hR with ⟨_, h0⟩ | ⟨b, o, c', hv, _, hcc, hvis, hat⟩
      · exact absurd h0 hx
      · obtain ⟨rfl, rfl⟩ : a = some ⟨b, o, none⟩ ∧ c = c' := by
          simp only [Sl, Value.slice.injEq, true_and] at hv; exact hv
        have hpos : 0 < xs.length := List.length_pos_iff.2 hx
        have h1 : xs.length * Rp.sz ByteArray = xs.length := Nat.mul_one _
        refine hc b o c xs sep σ.w (fun j x hj => ?_) ?_ hs.1 hcc hs.2
        · obtain ⟨hj1, hj2⟩ := List.getElem?_eq_some_iff.1 hj
          obtain ⟨cs, hr, hcell⟩ := hat j hj1
          have hr' : cs = [.string xs[j]] := hr
          subst hr'
          have := hcell 0 (by simp)
          rw [← hj2]
          have e : j * Rp.sz ByteArray = j := Nat.mul_one _
          rw [e] at this
          exact this
        · by_cases hb : b < σ.size
          · exact hb
          · rw [σ.ok b (Nat.le_of_not_lt hb)] at hvis; omega
  · cases h
end
/-! ## The variables that the library reads -/
def libG (n g1 g2 g3 : Nat) (h1 : g1 < n) (h2 : g2 < n) (h3 : g3 < n) : Gp where
  n := n
  p w := (∃ T fz, w.heap[g1]? = some (.cells ((Lib.pow10Tab.map fun z => Value.int .u64 z).toArray) T fz)) ∧ (∃ m, w.cell? ⟨g2, 0, none⟩ = some (.int .i64 m)) ∧
    ∃ ev T fz, w.heap[g3]? = some (.cells #[ev] T fz) ∧ (ev = .nilIface ∨ ∃ te pe, ev = .iface te pe)
  hp w w' h := by
    rintro ⟨⟨T, fz, e1⟩, ⟨m, e2⟩, ev, T3, fz3, e3, e4⟩
    exact ⟨⟨T, fz, (h _ h1).trans e1⟩, ⟨m, by rw [← e2]; exact World.cell?_of_block (h _ h2)⟩, ev, T3, fz3, (h _ h3).trans e3, e4⟩
section
variable {P : Program} {n g1 g2 g3 : Nat} {h1 : g1 < n} {h2 : g2 < n} {h3 : g3 < n} {w : World}
theorem libG_tab {name : String} (hn : P.globalNamed name = some g1) (h : (libG n g1 g2 g3 h1 h2 h3).p w) : Lib.TabIs P w name .u64 Lib.pow10Tab := by
  obtain ⟨T, fz, e⟩ := h.1
  simp [Lib.TabIs, World.var?, hn, e]
theorem libG_max (h : (libG n g1 g2 g3 h1 h2 h3).p w) : ∃ m, w.cell? ⟨g2, 0, none⟩ = some (.int .i64 m) := by
  exact h.2.1
theorem libG_err (h : (libG n g1 g2 g3 h1 h2 h3).p w) : ∃ ev, w.cell? ⟨g3, 0, none⟩ = some ev ∧ (ev = .nilIface ∨ ∃ te pe, ev = .iface te pe) := by
  obtain ⟨ev, T, fz, e, h'⟩ := h.2.2
  exact ⟨ev, by simp [World.cell?, e], h'⟩
end
end Go.Vs

namespace Go.Vs
open Go Go.ChangeShapes Go.WideShapes Go.ChangeAt Go.RowKit

theorem cov_gw {G : Gp} {L : List Ch} (h : ∀ b, ¬ cov L b) : ∀ b, ¬ cov (Ch.gw G :: L) b := fun b hb => hb.elim (fun h => h) (h b)
theorem all_gw {G : Gp} {L : List Ch} {σ : St} (h : (Ch.gw G).«as» σ) (k : allAs σ L) : allAs σ (Ch.gw G :: L) := ⟨h, k⟩
theorem apart_gw {G : Gp} {L : List Ch} (k : apart L) : apart (Ch.gw G :: L) := ⟨fun _ h => h.elim, k⟩
theorem allIn_gw {W : World} {k : Nat} {G : Gp} (hk : 0 < k) (hn : G.n ≤ W.heap.size) (h : G.p W) : (Ch.gw G).«as» (allIn W k) :=
  ⟨trivial, h, fun b hb => by
    show 0 < (if b < W.heap.size then k else 0)
    rw [if_pos (by omega)]; exact hk⟩
theorem var_block {P : Program} {W : World} {n : String} {g : Nat} {cs : Array Value} (hg : P.globalNamed n = some g) (h : W.var? P n = some cs) : ∃ T fz, W.heap[g]? = some (.cells cs T fz) := by
  unfold World.var? at h
  rw [hg, Option.bind_some] at h
  split at h
  · rename_i C T fz e
    cases h
    exact ⟨T, fz, e⟩
  · cases h
theorem libG_met {P : Program} {W : World} {n g1 g2 g3 : Nat} {h1 : g1 < n} {h2 : g2 < n} {h3 : g3 < n} {n1 n3 : String} {tp : TypeId} {a : Addr} (e1 : P.globalNamed n1 = some g1) (e3 : P.globalNamed n3 = some g3)
    (k1 : Lib.TabIs P W n1 .u64 Lib.pow10Tab) (k2 : ∃ m, W.cell? ⟨g2, 0, none⟩ = some (.int .i64 m)) (k3 : W.var? P n3 = some #[.iface tp (.pointer (some a))]) : (libG n g1 g2 g3 h1 h2 h3).p W := by
  obtain ⟨T, fz, e⟩ := var_block e1 k1
  obtain ⟨T', fz', e'⟩ := var_block e3 k3
  exact ⟨⟨T, fz, e⟩, k2, _, T', fz', e', .inr ⟨_, _, rfl⟩⟩
theorem var_lt {P : Program} {W : World} {n : String} {g : Nat} {cs : Array Value} (hg : P.globalNamed n = some g) (h : W.var? P n = some cs) : g < W.heap.size := by
  obtain ⟨T, fz, e⟩ := var_block hg h
  exact lt_of_block e

def recell (C : Array Value) : Obj → Obj
  | .cells _ T fz => .cells C T fz
  | o => o
theorem handed_and_shaped {H : Type} {enc : TypeId × Value → H} {a : Assume} {C : Checked} {os : Os} {f : FuncId} {fn : Func} {s : ChangeSpec} {conds : List PathCond} {apart fresh handsOn again : Bool} {X : World → Array Value → Prop}
    (hX : ∀ (w w' : World) (args : Array Value), w.heap = w'.heap → X w args → X w' args)
    (own : ownKnob C.prog.godebug = none) (started : os.Started) (noInit : C.prog.inits.idxOf? f = none) (hfn : C.prog.funcs[f]? = some fn)
    (witness : ∃ (w : World) (tape : Tape) (i : Input), w.os = os ∧ (w.forCall tape i).Shaped C.prog ∧ i.vars = [] ∧ Input.okWide C.prog (w.forCall tape i) .any w.heap.size f i ∧
      ((s.pre enc C.prog fn conds apart (w.forCall tape i).memory i.args ∧ X (w.forCall tape i).memory i.args) ∧ sizedMet enc C.prog fn (OpenSpec.ofChange s) apart (w.forCall tape i).memory i.args) ∧ a.holds C.prog (lone (Frame.enter C.prog f i.args .normal) [] (w.forCall tape i)))
    (contract : ∀ (W : World) (base : Nat) (args : Array Value) (ds gs : List (DataW H)) (before : List MemPlace),
      (∀ (j : Nat) t v, fn.params[j]? = some t → args[j]? = some v → Value.okWide C.prog W .any base t v) →
      DataW.Whole enc C.prog fn.params.toList s.vars apart W args.toList ds gs before → X W args → W.ShapedOpen C.prog →
      Calls C.prog f args W fun e W' => ∃ v, e = .returned v ∧ s.post enc C.prog fn apart fresh handsOn again W args v W') :
    ReturnsInHanded a C os f .any (fun w args => (s.pre enc C.prog fn conds apart w args ∧ X w args) ∧ sizedMet enc C.prog fn (OpenSpec.ofChange s) apart w args) (s.post enc C.prog fn apart fresh handsOn again) := by
  refine returnsInHanded_of_calls own started noInit witness ?_
  intro w tape i _ hsh _ hok hpre _
  obtain ⟨_, _, _, fn', hfn', _, _, _, _, hval⟩ := hok
  obtain rfl : fn' = fn := Option.some.inj (hfn'.symm.trans hfn)
  obtain ⟨⟨⟨ds, gs, before, hw, _⟩, hx⟩, _⟩ := hpre
  have hw' := DataW.Whole.of_heap (w' := w.forCall tape i) (by rfl) hw
  refine (contract (w.forCall tape i) w.heap.size i.args ds gs before hval hw' (hX _ _ _ (by rfl) hx) hsh).mono ?_
  rintro e W' ⟨v, rfl, hp⟩
  exact ChangeSpec.post_blind hp
end Go.Vs

namespace Go.Vs
open Go Go.Proofs Go.Shelf

section
variable {P : Program} {σ : St} {v z : Value} {ty T T' E : TypeId} {s bt lo : Nat}
theorem run_firstStr (t : ByteArray) (w : World) : (Builtin.firstCells 1 t.size (.string t)).run P w = .ok (Lib.strCells t).toArray w := by
  have h : (t.extract 0 t.size) = t := by simp
  show Result.ok (((t.extract 0 t.size).data).map fun b => Value.int .u8 b.toNat) w = _
  rw [h]
  congr 1
  apply Array.ext'
  simp [Lib.strCells]
theorem run_appendS_at {el : Nat} {xs : List UInt8} {t : ByteArray} {v' : Value} {w' : World} (hT : P.underlying T = some (.slice E)) (hT' : P.underlying T' = some .string) (hi : TI P E z s bt) (hs : s = 1) (hbt : bt ≤ 1024)
    (hO : Ow σ lo el v xs) (hlen : xs.length + t.size ≤ 2147483648) (hr : (Builtin.append_ #[T, T'] ty #[v, .string t]).run P σ.w = .ok v' w') :
    blk v' = blk v ∨ ∀ b, blk v' = some b → σ.size ≤ b := by
  obtain ⟨i0, hi1, hi2, hi3, hi4⟩ := hi.it
  have hTI := hi
  obtain ⟨K, hK1, hK2, hK3⟩ := hO.rd.row
  subst hs
  have hlenOf : ∀ w, (Builtin.lenOf (.string t)).run P w = .ok t.size w := fun w => rfl
  obtain ⟨ad, cp, rfl⟩ := hO.isSl
  by_cases hcap : xs.length + t.size ≤ cp
  · left
    simp only [Builtin.append_, List.getElem?_toArray, List.getElem?_cons_zero, List.getElem?_cons_succ, underlying, hT, hT', Sem.run_bind, run_program, Result.andThen_ok, Sem.run_pure, run_typeInfo hTI, hlenOf,
      hcap, if_true, Bool.false_eq_true, if_false, Bool.not_false, run_firstStr] at hr
    cases ad with
    | none =>
      simp only [Sem.run_pure, Result.andThen_ok, Result.ok.injEq] at hr
      rw [← hr.1]; rfl
    | some a =>
      simp only [Sem.run_bind] at hr
      cases hst : (storeCells (a.add (xs.length * 1)) (Lib.strCells t)).run P σ.w with
      | ok u w2 =>
        rw [hst] at hr
        have h2 : Result.ok (Value.slice (some a) (xs.length + t.size) cp) w2 = Result.ok v' w' := hr
        simp only [Result.ok.injEq] at h2
        rw [← h2.1]; rfl
      | halt h w2 =>
        rw [hst] at hr
        cases hr
  · right
    have hn := nextslicecap_le (need := xs.length + t.size) (c := cp) (by omega)
    have hbig : ¬ Builtin.nextslicecap (xs.length + t.size) cp * bt > 2 ^ 48 := by
      have h1 : Builtin.nextslicecap (xs.length + t.size) cp * bt ≤ (2 * (xs.length + t.size) + 300) * 1024 := Nat.mul_le_mul hn hbt
      have h2 : (2 : Nat) ^ 48 = 281474976710656 := by decide
      omega
    have hmax' : ¬ (((xs.length + t.size : Nat) : Int) > IntKind.i64.max) := by
      have : IntKind.i64.max = 9223372036854775807 := by decide
      omega
    let q : Question := .appendCap (xs.length + t.size) cp E
    let cap' := q.cut (σ.w.tape σ.w.drawn q)
    let w1 : World := { σ.w with drawn := σ.w.drawn + 1 }
    have hf1 := run_firstCells (P := P) (σ := σ) (v := .slice ad xs.length cp) hK1 hK3 w1 rfl
    have hroom : (askRoom (cap' * bt)).run P w1 = .ok () w1 := by
      unfold askRoom; split <;> rfl
    have hch : (choose (.appendCap (xs.length + t.size) cp E)).run P σ.w = .ok cap' w1 := by
      simp [choose, Sem.run, Question.forced, cap', q, w1]
    have hti : (typeInfo E).run P = fun w => .ok i0 w := by
      funext w; simp [typeInfo, hi1]
    have hf1' : (Builtin.firstCells 1 xs.length (.slice ad xs.length cp)).run P w1 = .ok K.toArray w1 := hf1
    simp only [Builtin.append_, List.getElem?_toArray, List.getElem?_cons_zero, List.getElem?_cons_succ, underlying, hT, hT', Sem.run_bind, run_program, Result.andThen_ok, Sem.run_pure, run_typeInfo hTI, hlenOf,
      hcap, if_true, Bool.false_eq_true, if_false, Bool.not_false, hmax', false_and, hti, hi4, hbig, hch, hroom, hf1', run_firstStr, run_zero hTI] at hr
    have h2 : Result.ok _ _ = Result.ok v' w' := hr
    simp only [Result.ok.injEq] at h2
    rw [← h2.1]
    rintro b ⟨⟩
    exact Nat.le_refl _
end
theorem ownBlock_blk (v : Value) : v.ownBlock = blk v := by
  cases v <;> rfl
def SbW (T e lo b : Nat) (v : Value) (bs : List Value) (w : World) : Prop :=
  lo ≤ b ∧ (∃ p, (p = .pointer none ∨ p = pt b 0) ∧ w.heap[b]? = some (.cells #[p, v] T (0, 0))) ∧ w.ownsRow lo e 1 v bs.length bs ∧ v.ownBlock ≠ some b
section
variable {T e lo b : Nat} {v : Value} {bs : List Value} {w w' : World}
theorem SbW.is (h : SbW T e lo b v bs w) : Lib.IsBuilder T e lo b bs w := by
  obtain ⟨h1, ⟨p, hp, h2⟩, h3, h4⟩ := h
  rcases hp with rfl | rfl
  · exact .inl ⟨h1, v, h2, h3, h4⟩
  · exact .inr ⟨h1, v, h2, h3, h4⟩
theorem SbW.kept (h : SbW T e lo b v bs w) (hb : w'.heap[b]? = w.heap[b]?) (hg : ∀ g, v.ownBlock = some g → w'.heap[g]? = w.heap[g]?) : SbW T e lo b v bs w' := by
  obtain ⟨h1, ⟨p, hp, h2⟩, ⟨h3, h5⟩, h4⟩ := h
  refine ⟨h1, ⟨p, hp, hb.trans h2⟩, ⟨h3, ?_⟩, h4⟩
  rcases h5 with h5 | ⟨g, cap, cur, rfl, h6, h7, h8⟩
  · exact .inl h5
  · exact .inr ⟨g, cap, cur, rfl, h6, (hg g rfl).trans h7, h8⟩
theorem ownsRow_ow {σ : St} {l : List UInt8} (h : σ.w.ownsRow lo e 1 v (Lib.byteCells l).length (Lib.byteCells l)) (hv : ∀ g, v.ownBlock = some g → σ.vis g = 0) : ∃ a c, v = Sl a l c ∧ Ow σ lo lo (Sl a l c) l := by
  have hl : (Lib.byteCells l).length = l.length := Lib.byteCells_length l
  rw [hl] at h
  rcases h.2 with ⟨rfl, h0⟩ | ⟨g, cap, cur, rfl, h6, h7, h8, h9, h10, h11⟩
  · have : l = [] := List.eq_nil_of_length_eq_zero h0
    subst this
    exact ⟨none, 0, rfl, Ow.nil⟩
  · refine ⟨_, _, rfl, .inr ⟨g, 0, cap, cur, e, rfl, h6, h7, h8, by rw [h10, Nat.zero_add]; exact Nat.le_refl _, hv g rfl, fun i hi => ⟨[.int .u8 l[i].toNat], rfl, fun j hj => ?_⟩⟩⟩
    have hj0 : j = 0 := by simpa using hj
    subst hj0
    show σ.w.cell? _ = _
    have hsz : Rp.sz UInt8 = 1 := rfl
    simp only [World.cell?, h7, Option.isSome_none, Bool.false_eq_true, if_false, hsz, Nat.zero_add, Nat.mul_one, Nat.add_zero]
    have e1 : (cur.toList.take (l.length * 1))[i]? = (Lib.byteCells l)[i]? := by rw [h11]
    rw [List.getElem?_take, if_pos (by omega)] at e1
    simp only [Array.getElem?_toList] at e1
    rw [e1]
    simp [Lib.byteCells, hi]
end
section
variable {P : Program} {ρ : Ren} {T e lo b : Nat} {v : Value} {bs : List Value} {w : World}
theorem bu_copyCheck (L : Lays.n240 P ρ) (X : Builder.X72 P ρ) (h : SbW (ρ.t 72) e lo b v bs w) :
    Calls P (ρ.f 240) #[.pointer (some ⟨b, 0, none⟩)] w fun r w' => r = .returned (.tuple #[]) ∧ w.grownBy w' (some b) ∧ w'.heap.size ≤ w.heap.size ∧ w'.heap[b]? = some (.cells #[pt b 0, v] (ρ.t 72) (0, 0)) := by
  obtain ⟨h1, ⟨p, hp, h2⟩, h3, h4⟩ := h
  have hc : w.cell? ⟨b, 0, none⟩ = some p := by simp [World.cell?, h2]
  rcases hp with rfl | rfl
  · refine (Any.Builder_copyCheck_fresh L X b w hc (by simp [World.shape?, h2]) (by simp [World.frozen?, h2])).mono ?_
    rintro r w' ⟨rfl, rfl⟩
    rw [setCell_put h2]
    refine ⟨rfl, ⟨rfl, rfl, rfl, Nat.le_of_eq (World.put_size _ _ _).symm, fun k _ hk => World.put_ne _ (fun e => hk (by rw [e]))⟩, Nat.le_of_eq (World.put_size _ _ _), ?_⟩
    rw [World.put_at _ (lt_of_block h2)]
    rfl
  · refine (Any.Builder_copyCheck_used L X b w hc).mono ?_
    rintro r w' ⟨rfl, rfl⟩
    exact ⟨rfl, ⟨rfl, rfl, rfl, Nat.le_refl _, fun _ _ _ => rfl⟩, Nat.le_refl _, h2⟩
end
section
variable {P : Program} {ρ : Ren}
theorem wpList_appS {w : World} {ops : Array Oper} {rest : List Oper} {o : Oper} {a : Act} {Q : Exit → Act → World → Prop} (hgd : o.guard = none) (sl x : Operand) (t u : TypeId)
    (ho : o.op = .call { callee := .builtin .append, args := #[sl, x], argTypes := #[t, u] })
    (base : Nat) (e : TypeId) (i : TypeInfo) (ht : P.underlying t = some (.slice e)) (hu : P.underlying u = some .string) (hi : P.info? e = some i) (hz : i.zero = some (.int .u8 0))
    (hsize : i.size = 1) (hby : i.bytes = 1)
    (v : Value) (l : List UInt8) (hs : a.eval sl = v) (hown : w.ownsRow base e 1 v (Lib.byteCells l).length (Lib.byteCells l)) (s : ByteArray) (hx : a.eval x = .string s)
    (h63 : l.length + s.size ≤ 2147483648) (hbase : base ≤ w.heap.size)
    (h : ∀ v' w', w'.ownsRow base e 1 v' ((Lib.byteCells l).length + s.size) (Lib.byteCells l ++ Lib.strCells s) → w.grownBy w' v.ownBlock → (blk v' = blk v ∨ ∀ b, blk v' = some b → w.heap.size ≤ b) → wpList P ops Q rest (a.put o.dst v') w') : wpList P ops Q (o :: rest) a w := by
  refine wpList_plain hgd fun K hK => ?_
  have hl : (Lib.byteCells l).length = l.length := Lib.byteCells_length l
  obtain ⟨v', w', hr, h2, h3, -⟩ := Lib.run_append_own_string (P := P) w base t u o.type e i ht hu hi hz hsize hby v _ _ hown s (by rw [hl]; simp only [maxLen]; omega) (by rw [hl]; omega) hbase
  let σ : St := ⟨w, fun _ => 0, fun _ _ => rfl, True⟩
  obtain ⟨a0, c0, rfl, hO⟩ := ownsRow_ow (σ := σ) hown (fun _ _ => rfl)
  have h4 := run_appendS_at (σ := σ) (ty := o.type) ht hu (⟨i, hi, hz, hsize, hby⟩ : TI P e (.int .u8 0) 1 1) rfl (by decide) hO h63 hr
  unfold Oper.wp execOp
  simp only [ho, resolve, invoke, builtin, Sem.run_bind, Sem.run_pure, Result.andThen_ok, List.map_toArray, List.map_cons, List.map_nil, hs, hx, hr]
  exact hK _ _ (h v' w' h2 h3 h4)

set_option maxHeartbeats 2000000 in
set_option maxRecDepth 100000 in
theorem bu_WriteString (L : Lays.n166 P ρ) (X : Builder.Extra P ρ) {lo b : Nat} {v : Value} {l : List UInt8} {s : ByteArray} {w : World} (h : SbW (ρ.t 72) (ρ.t 5) lo b v (Lib.byteCells l) w) (hlen : l.length + s.size ≤ 2147483648) (hlo : lo ≤ w.heap.size) :
    Calls P (ρ.f 166) #[.pointer (some ⟨b, 0, none⟩), .string s] w fun r w' => r = .returned (.tuple #[.int .i64 s.size, .nilIface]) ∧ ∃ v', SbW (ρ.t 72) (ρ.t 5) lo b v' (Lib.byteCells l ++ Lib.strCells s) w' ∧
      (w'.os = w.os ∧ w'.tape = w.tape ∧ w'.output = w.output ∧ w.heap.size ≤ w'.heap.size) ∧ (∀ k, k < w.heap.size → k ≠ b → blk v ≠ some k → w'.heap[k]? = w.heap[k]?) ∧ (blk v' = blk v ∨ ∀ k, blk v' = some k → w.heap.size ≤ k) := by
  obtain ⟨i0, hi, hz0, hz1, hz2⟩ := info_parts X.infoByte
  have mixed := L.mixed
  have t72 := L.t72; have a72 := L.a72; have z72 := L.z72; have v72 := L.v72; have u72 := run_underlying L.t72
  have t70 := L.t70; have a70 := L.a70; have z70 := L.z70; have v70 := L.v70; have u70 := run_underlying L.t70
  have t37 := L.t37; have a37 := L.a37; have z37 := L.z37; have v37 := L.v37; have u37 := run_underlying L.t37
  have t3 := L.t3; have a3 := L.a3; have z3 := L.z3; have v3 := L.v3; have u3 := run_underlying L.t3
  have t9 := L.t9; have a9 := L.a9; have z9 := L.z9; have v9 := L.v9; have u9 := run_underlying L.t9
  have t4 := L.t4; have a4 := L.a4; have z4 := L.z4; have v4 := L.v4; have u4 := run_underlying L.t4
  have t164 := L.t164; have a164 := L.a164; have z164 := L.z164; have v164 := L.v164; have u164 := run_underlying L.t164
  have t5 := X.t5; have a5 := X.a5; have z5 := X.z5; have v5 := X.v5; have u5 := run_underlying X.t5
  have e240 : ∀ args w, (callFunc (ρ.f 240) args).run P w = .ok (.enter (ρ.f 240) args) w := enters_of L.f240 (by kernel_rfl) rfl
  have hob : v.ownBlock = blk v := ownBlock_blk v
  have hlo' := hlo
  obtain ⟨hB, -, hown0, hne⟩ := id h
  go_enter L.f166, Body.n166_ntmps ρ
  go_wp2_with (go_at_fn (ρ.f 240); refine (bu_copyCheck { L with } X.toX72 h).mono ?_)
  rintro e w1 ⟨rfl, hg1, hsz, hbk⟩
  have hsz2 := hg1.size
  have hown : w1.ownsRow lo (ρ.t 5) 1 v (Lib.byteCells l).length (Lib.byteCells l) := hown0.kept hg1 (.inr hne)
  have c0 : w1.cell? ⟨b, 0, none⟩ = some (.pointer (some ⟨b, 0, none⟩)) := by rw [Lib.cell_of_heap hbk]; rfl
  have c1 : w1.cell? ⟨b, 1, none⟩ = some v := by rw [Lib.cell_of_heap hbk]; rfl
  go_wp2_with (at_builtin; refine wpList_appS rfl _ _ (ρ.t 37) (ρ.t 9) rfl lo (ρ.t 5) i0 L.t37 L.t9 hi hz0 hz1 hz2 _ l rfl hown s rfl ?c3 ?c5 ?_)
  case c3 => exact hlen
  case c5 => omega
  intro v' w2 hown' hgrow hat
  have hlt : b < w1.heap.size := lt_of_block hbk
  have hb2 : w2.heap[b]? = some (.cells #[.pointer (some ⟨b, 0, none⟩), v] (ρ.t 72) (0, 0)) := by
    rw [hgrow.block b hlt (fun e => hne e.symm)]
    exact hbk
  have d0 : w2.cell? ⟨b, 0, none⟩ = some (.pointer (some ⟨b, 0, none⟩)) := by rw [Lib.cell_of_heap hb2]; rfl
  have d1 : w2.cell? ⟨b, 1, none⟩ = some v := by rw [Lib.cell_of_heap hb2]; rfl
  have f1 : w2.frozen? ⟨b, 1, none⟩ = false := Lib.frozen_of_heap hb2 1
  obtain ⟨ao, n', cap, rfl⟩ : ∃ ao n' cap, v' = .slice ao n' cap := by
    rcases hown'.2 with ⟨hv, _⟩ | ⟨g, cap, cur, hv, _⟩
    · exact ⟨_, _, _, hv⟩
    · exact ⟨_, _, _, hv⟩
  go_wp2
  go_ret2
  have hA : Lib.BuilderAt (ρ.t 72) (ρ.t 5) lo b (.pointer (some ⟨b, 0, none⟩)) (Lib.byteCells l ++ Lib.strCells s) (w2.setCell ⟨b, 1, none⟩ (.slice ao n' cap)) :=
    Lib.BuilderAt.put (T := (ρ.t 72)) (e := (ρ.t 5)) hB hb2 (bs' := Lib.byteCells l ++ Lib.strCells s) (by simpa [Lib.strCells_length] using hown') X.neB5
  obtain ⟨-, v2, hv2, ho2, hn2⟩ := hA
  have hv3 : v2 = .slice ao n' cap := by
    rw [setCell_put hb2, World.put_at _ (lt_of_block hb2)] at hv2
    simp at hv2
    exact hv2.symm
  subst hv3
  refine ⟨rfl, _, ⟨hB, ⟨_, .inr rfl, hv2⟩, ho2, hn2⟩, ⟨?_, ?_, ?_, ?_⟩, fun k hk hkb hkv => ?_, ?_⟩
  · rw [setCell_put hb2]; exact hgrow.os.trans hg1.os
  · rw [setCell_put hb2]; exact hgrow.tape.trans hg1.tape
  · rw [setCell_put hb2]; exact hgrow.output.trans hg1.output
  · rw [setCell_put hb2, World.put_size]; have := hgrow.size; omega
  · rw [setCell_put hb2, World.put_ne _ (Ne.symm hkb), hgrow.block k (by omega) (fun e => hkv (by rw [← hob]; exact e.symm)), hg1.block k hk (fun e => hkb (by cases e; rfl))]
  · rcases hat with hat | hat
    · exact .inl hat
    · exact .inr fun k hk => by have := hat k hk; omega

theorem walloc_size (w : World) (o : Obj) : (w.alloc o).heap.size = w.heap.size + 1 := by show (w.heap.push o).size = _; simp
theorem wpList_appB {w : World} {ops : Array Oper} {rest : List Oper} {o : Oper} {a : Act} {Q : Exit → Act → World → Prop} (hgd : o.guard = none) (sl x : Operand) (t : TypeId)
    (ho : o.op = .call { callee := .builtin .append, args := #[sl, x], argTypes := #[t, t] })
    (base : Nat) (e : TypeId) (i : TypeInfo) (ht : P.underlying t = some (.slice e)) (hi : P.info? e = some i) (hz : i.zero = some (.int .u8 0))
    (hsize : i.size = 1) (hby : i.bytes = 1)
    (v : Value) (l : List UInt8) (hs : a.eval sl = v) (hown : w.ownsRow base e 1 v (Lib.byteCells l).length (Lib.byteCells l)) (bk : Nat) (c : UInt8) (hx : a.eval x = .slice (some ⟨bk, 0, none⟩) 1 1)
    (hc : w.cell? ⟨bk, 0, none⟩ = some (.int .u8 c.toNat)) (h63 : l.length + 1 ≤ 2147483648) (hbase : base ≤ w.heap.size)
    (h : ∀ v' w', w'.ownsRow base e 1 v' ((Lib.byteCells l).length + 1) (Lib.byteCells l ++ [.int .u8 c.toNat]) → w.grownBy w' v.ownBlock → (blk v' = blk v ∨ ∀ b, blk v' = some b → w.heap.size ≤ b) → wpList P ops Q rest (a.put o.dst v') w') : wpList P ops Q (o :: rest) a w := by
  refine wpList_plain hgd fun K hK => ?_
  have hl : (Lib.byteCells l).length = l.length := Lib.byteCells_length l
  obtain ⟨v', w', hr, h2, h3, -⟩ := run_append_own (P := P) w base t o.type e i (.int .u8 0) 1 1 ht hi hz hsize hby rfl (by decide) v _ _ hown ⟨bk, 0, none⟩ 1 1 [.int .u8 c.toNat] rfl
    (by intro j u hj; match j, hj with | 0, hj => (simp at hj; subst hj; simpa [Addr.add] using hc))
    (by intro u hu; simp at hu; subst hu; rfl) (by rw [hl]; simp only [maxLen]; omega) (by rw [hl]; omega) hbase
  let σ : St := ⟨w, fun _ => 0, fun _ _ => rfl, True⟩
  obtain ⟨a0, c0, rfl, hO⟩ := ownsRow_ow (σ := σ) hown (fun _ _ => rfl)
  have hR : Rd base σ (.slice (some ⟨bk, 0, none⟩) 1 1) [c] := .inr ⟨bk, 0, 1, rfl, fun i hi => by
    have : i = 0 := by simpa using hi
    subst this
    refine ⟨[.int .u8 c.toNat], rfl, fun j hj => ?_⟩
    have : j = 0 := by simpa using hj
    subst this
    exact hc⟩
  obtain ⟨a', c', σ', hr', -, -, h4, -⟩ := run_append (P := P) (T := t) (T' := t) (ty := o.type) ht ht (⟨i, hi, hz, hsize, hby⟩ : TI P e (.int .u8 0) 1 1) rfl rfl (by decide) hO hR (by simpa using h63) hbase
  have he : v' = Sl a' (l ++ [c]) c' := by
    have := hr.symm.trans hr'
    simp only [Result.ok.injEq] at this
    exact this.1
  subst he
  unfold Oper.wp execOp
  simp only [ho, resolve, invoke, builtin, Sem.run_bind, Sem.run_pure, Result.andThen_ok, List.map_toArray, List.map_cons, List.map_nil, hs, hx, hr]
  exact hK _ _ (h _ w' h2 h3 h4)

set_option maxHeartbeats 2000000 in
set_option maxRecDepth 100000 in
theorem bu_WriteByte (L : Lays.n167 P ρ) (X : Builder.Extra P ρ) {lo b : Nat} {v : Value} {l : List UInt8} {c : UInt8} {w : World} (h : SbW (ρ.t 72) (ρ.t 5) lo b v (Lib.byteCells l) w) (hlen : l.length + 1 ≤ 2147483648) (hlo : lo ≤ w.heap.size) :
    Calls P (ρ.f 167) #[.pointer (some ⟨b, 0, none⟩), .int .u8 c.toNat] w fun r w' => r = .returned .nilIface ∧ ∃ v', SbW (ρ.t 72) (ρ.t 5) lo b v' (Lib.byteCells l ++ [.int .u8 c.toNat]) w' ∧
      (w'.os = w.os ∧ w'.tape = w.tape ∧ w'.output = w.output ∧ w.heap.size ≤ w'.heap.size) ∧ (∀ k, k < w.heap.size → k ≠ b → blk v ≠ some k → w'.heap[k]? = w.heap[k]?) ∧ (blk v' = blk v ∨ ∀ k, blk v' = some k → w.heap.size ≤ k) := by
  obtain ⟨i0, hi, hz0, hz1, hz2⟩ := info_parts X.infoByte
  have mixed := L.mixed
  have t72 := L.t72; have a72 := L.a72; have z72 := L.z72; have v72 := L.v72; have u72 := run_underlying L.t72
  have t70 := L.t70; have a70 := L.a70; have z70 := L.z70; have v70 := L.v70; have u70 := run_underlying L.t70
  have t5 := L.t5; have a5 := L.a5; have z5 := L.z5; have v5 := L.v5; have u5 := run_underlying L.t5
  have t37 := L.t37; have a37 := L.a37; have z37 := L.z37; have v37 := L.v37; have u37 := run_underlying L.t37
  have t9 := L.t9; have a9 := L.a9; have z9 := L.z9; have v9 := L.v9; have u9 := run_underlying L.t9
  have t4 := L.t4; have a4 := L.a4; have z4 := L.z4; have v4 := L.v4; have u4 := run_underlying L.t4
  have t164 := L.t164; have a164 := L.a164; have z164 := L.z164; have v164 := L.v164; have u164 := run_underlying L.t164
  have e240 : ∀ args w, (callFunc (ρ.f 240) args).run P w = .ok (.enter (ρ.f 240) args) w := enters_of L.f240 (by kernel_rfl) rfl
  have hob : v.ownBlock = blk v := ownBlock_blk v
  obtain ⟨hB, -, hown0, hne⟩ := id h
  go_enter L.f167, Body.n167_ntmps ρ
  go_wp2_with (go_at_fn (ρ.f 240); refine (bu_copyCheck { L with } X.toX72 h).mono ?_)
  rintro e w1 ⟨rfl, hg1, hsz, hbk⟩
  have hsz2 := hg1.size
  have hown : w1.ownsRow lo (ρ.t 5) 1 v (Lib.byteCells l).length (Lib.byteCells l) := hown0.kept hg1 (.inr hne)
  have c0 : w1.cell? ⟨b, 0, none⟩ = some (.pointer (some ⟨b, 0, none⟩)) := by rw [Lib.cell_of_heap hbk]; rfl
  have c1 : w1.cell? ⟨b, 1, none⟩ = some v := by rw [Lib.cell_of_heap hbk]; rfl
  go_wp2_with (at_builtin; refine wpList_appB rfl _ _ (ρ.t 37) rfl lo (ρ.t 5) i0 L.t37 hi hz0 hz1 hz2 _ l rfl (hown.alloc _) w1.heap.size c rfl ?c1 ?c3 ?c5 ?_)
  case c1 => exact (Lib.cell_of_heap (show (w1.heap.push _)[w1.heap.size]? = some _ from Array.getElem?_push_size) 0).trans rfl
  case c3 => exact hlen
  case c5 => rw [walloc_size]; omega
  intro v' w2 hown' hgrow hat
  have hlt : b < w1.heap.size := lt_of_block hbk
  have hb2 : w2.heap[b]? = some (.cells #[.pointer (some ⟨b, 0, none⟩), v] (ρ.t 72) (0, 0)) := by
    rw [hgrow.block b (by rw [walloc_size]; omega) (fun e => hne e.symm), Lib.alloc_old w1 _ b hlt]
    exact hbk
  have d0 : w2.cell? ⟨b, 0, none⟩ = some (.pointer (some ⟨b, 0, none⟩)) := by rw [Lib.cell_of_heap hb2]; rfl
  have d1 : w2.cell? ⟨b, 1, none⟩ = some v := by rw [Lib.cell_of_heap hb2]; rfl
  have f1 : w2.frozen? ⟨b, 1, none⟩ = false := Lib.frozen_of_heap hb2 1
  obtain ⟨ao, n', cap, rfl⟩ : ∃ ao n' cap, v' = .slice ao n' cap := by
    rcases hown'.2 with ⟨hv, _⟩ | ⟨g, cap, cur, hv, _⟩
    · exact ⟨_, _, _, hv⟩
    · exact ⟨_, _, _, hv⟩
  go_wp2
  go_ret
  have hA : Lib.BuilderAt (ρ.t 72) (ρ.t 5) lo b (.pointer (some ⟨b, 0, none⟩)) (Lib.byteCells l ++ [.int .u8 c.toNat]) (w2.setCell ⟨b, 1, none⟩ (.slice ao n' cap)) :=
    Lib.BuilderAt.put (T := (ρ.t 72)) (e := (ρ.t 5)) hB hb2 (bs' := Lib.byteCells l ++ [.int .u8 c.toNat]) (by simpa using hown') X.neB5
  obtain ⟨-, v2, hv2, ho2, hn2⟩ := hA
  have hv3 : v2 = .slice ao n' cap := by
    rw [setCell_put hb2, World.put_at _ (lt_of_block hb2)] at hv2
    simp at hv2
    exact hv2.symm
  subst hv3
  have hsw : w1.heap.size ≤ w2.heap.size := by have := hgrow.size; rw [walloc_size] at this; omega
  refine ⟨rfl, _, ⟨hB, ⟨_, .inr rfl, hv2⟩, ho2, hn2⟩, ⟨?_, ?_, ?_, ?_⟩, fun k hk hkb hkv => ?_, ?_⟩
  · rw [setCell_put hb2]; exact hgrow.os.trans hg1.os
  · rw [setCell_put hb2]; exact hgrow.tape.trans hg1.tape
  · rw [setCell_put hb2]; exact hgrow.output.trans hg1.output
  · rw [setCell_put hb2, World.put_size]; omega
  · rw [setCell_put hb2, World.put_ne _ (Ne.symm hkb), hgrow.block k (by rw [walloc_size]; omega) (fun e => hkv (by rw [← hob]; exact e.symm)), Lib.alloc_old w1 _ k (by omega), hg1.block k hk (fun e => hkb (by cases e; rfl))]
  · rcases hat with hat | hat
    · exact .inl hat
    · exact .inr fun k hk => by have := hat k hk; omega
end
def Ch.sb (T e lo b : Nat) (v : Value) (l : List UInt8) : Ch where
  dup := false
  fp i := i = b ∨ blk v = some i
  «as» σ := SbW T e lo b v (Lib.byteCells l) σ.w ∧ σ.vis b = 0 ∧ ∀ g, blk v = some g → σ.vis g = 0
  hdup h := by cases h
  hlt h i hi := by
    obtain ⟨⟨-, ⟨p, -, h2⟩, h3, -⟩, -⟩ := h
    rcases hi with rfl | hi
    · exact lt_of_block h2
    · exact (h3.lt i (by rw [ownBlock_blk]; exact hi)).2
  hst m hd h := by
    obtain ⟨h1, h2, h3⟩ := h
    obtain ⟨-, ⟨p, -, h5⟩, h6, -⟩ := id h1
    have hb := lt_of_block h5
    have hg : ∀ g, blk _ = some g → g < _ := fun g hg => (h6.lt g (by rw [ownBlock_blk]; exact hg)).2
    exact ⟨h1.kept (m.block _ hb (hd _ (.inl rfl))) (fun g e => by rw [ownBlock_blk] at e; exact m.block _ (hg g e) (hd _ (.inr e))), (m.vis _ hb (hd _ (.inl rfl))).trans h2, fun g e => (m.vis _ (hg g e) (hd _ (.inr e))).trans (h3 g e)⟩

section
variable {P : Program} {ρ : Ren} {T e lo b : Nat} {v : Value} {l : List UInt8} {G : Gp}
theorem sb_frame {σ : St} {w' : World} {v' : Value} {l' : List UInt8} {m : Nat} (H : Hp (cov [Ch.sb T e lo b v l, Ch.gw G]) σ σ [Ch.sb T e lo b v l, Ch.gw G]) (h1 : SbW T e lo b v' (Lib.byteCells l') w')
    (h2 : w'.os = σ.w.os ∧ w'.tape = σ.w.tape ∧ w'.output = σ.w.output ∧ σ.w.heap.size ≤ w'.heap.size) (h3 : ∀ k, k < σ.w.heap.size → k ≠ b → blk v ≠ some k → w'.heap[k]? = σ.w.heap[k]?) (h4 : blk v' = blk v ∨ ∀ k, blk v' = some k → σ.w.heap.size ≤ k) :
    Hp (cov [Ch.sb T e lo b v l, Ch.gw G]) σ (σ.inW w' h2.2.2.2) [Ch.sb T e lo b v' l'] := by
  have hs : (Ch.sb T e lo b v l).«as» σ := H.all.1
  have hg : (Ch.gw G).«as» σ := H.all.2.1
  obtain ⟨-, hv1, hv2⟩ := hs
  have hvis : ∀ k, blk v' = some k → σ.vis k = 0 := fun k hk => by
    rcases h4 with h4 | h4
    · exact hv2 k (h4 ▸ hk)
    · exact σ.ok k (h4 k hk)
  have hE : Ext σ (σ.inW w' h2.2.2.2) := by
    refine ⟨h2.2.2.2, fun k ho => ?_, fun k => Nat.le_of_eq St.inW_vis.symm⟩
    refine h3 k ?_ ?_ ?_
    · by_cases hb : k < σ.size
      · exact hb
      · rw [σ.ok k (by unfold St.size at hb; omega)] at ho; omega
    · rintro rfl; rw [hv1] at ho; omega
    · intro e; rw [hv2 k e] at ho; omega
  have hmd : Md (cov [Ch.sb T e lo b v l, Ch.gw G]) σ (σ.inW w' h2.2.2.2) :=
    ⟨h2.1, h2.2.1, h2.2.2.1, .inl hg.1, rfl, hE, fun k hk hn => h3 k hk (fun e => hn (.inl (.inl e))) (fun e => hn (.inl (.inr e))), fun k _ _ => St.inW_vis⟩
  refine ⟨hmd, ⟨⟨h1, St.inW_vis.trans hv1, fun g e => St.inW_vis.trans (hvis g e)⟩, trivial⟩, ⟨fun _ _ h => h, trivial⟩, fun k hk hlt => ?_⟩
  rcases hk with (rfl | hk) | hk
  · exact .inl (.inl rfl)
  · rcases h4 with h4 | h4
    · exact .inl (.inr (h4 ▸ hk))
    · exact absurd hlt (Nat.not_lt.2 (h4 k hk))
  · exact hk.elim
theorem bstr_cal2 (L : Lays.n166 P ρ) (X : Builder.Extra P ρ) (hf : ∃ fn c, P.funcs[ρ.f 166]? = some fn ∧ (fn.name == "runtime.NumGoroutine") = false ∧ fn.body = some c) {s : ByteArray} {r : Int × List UInt8} (h : M.bldStr l s = some r) :
    Cal2 P (ρ.f 166) [pt b 0, (.string s)] [Ch.sb (ρ.t 72) (ρ.t 5) lo b v l, Ch.gw G] (fun _ u L' => ∃ v', u = (.tuple #[(I r.1), .nilIface]) ∧ L' = [Ch.sb (ρ.t 72) (ρ.t 5) lo b v' r.2]) := by
  unfold M.bldStr at h
  split at h
  · rename_i hlen
    cases h
    refine ⟨hf, fun σ m hm H => ?_⟩
    have hs : (Ch.sb (ρ.t 72) (ρ.t 5) lo b v l).«as» σ := H.all.1
    have hlo : lo ≤ σ.w.heap.size := by
      obtain ⟨⟨h1, ⟨p, -, h2⟩, -⟩, -⟩ := hs
      have := lt_of_block h2; omega
    refine (bu_WriteString L X hs.1 hlen hlo).mono ?_
    rintro u w' ⟨rfl, v', h1, h2, h3, h4⟩
    have hbc : Lib.byteCells l ++ Lib.strCells s = Lib.byteCells (l ++ s.data.toList) := by simp [Lib.byteCells, Lib.strCells]
    rw [hbc] at h1
    exact ⟨_, _, _, rfl, rfl, ⟨v', rfl, rfl⟩, sb_frame (m := m) H h1 h2 h3 h4⟩
  · cases h
theorem bbyte_cal2 (L : Lays.n167 P ρ) (X : Builder.Extra P ρ) (hf : ∃ fn c, P.funcs[ρ.f 167]? = some fn ∧ (fn.name == "runtime.NumGoroutine") = false ∧ fn.body = some c) {c : UInt8} {r : List UInt8} (h : M.bldByte l c = some r) :
    Cal2 P (ρ.f 167) [pt b 0, (.int .u8 (c.toNat : Int))] [Ch.sb (ρ.t 72) (ρ.t 5) lo b v l, Ch.gw G] (fun _ u L' => ∃ v', u = .nilIface ∧ L' = [Ch.sb (ρ.t 72) (ρ.t 5) lo b v' r]) := by
  unfold M.bldByte at h
  split at h
  · rename_i hlen
    cases h
    refine ⟨hf, fun σ m hm H => ?_⟩
    have hs : (Ch.sb (ρ.t 72) (ρ.t 5) lo b v l).«as» σ := H.all.1
    have hlo : lo ≤ σ.w.heap.size := by
      obtain ⟨⟨h1, ⟨p, -, h2⟩, -⟩, -⟩ := hs
      have := lt_of_block h2; omega
    refine (bu_WriteByte L X hs.1 hlen hlo).mono ?_
    rintro u w' ⟨rfl, v', h1, h2, h3, h4⟩
    have hbc : Lib.byteCells l ++ [Value.int .u8 c.toNat] = Lib.byteCells (l ++ [c]) := by simp [Lib.byteCells]
    rw [hbc] at h1
    exact ⟨_, _, _, rfl, rfl, ⟨v', rfl, rfl⟩, sb_frame (m := m) H h1 h2 h3 h4⟩
  · cases h
end
section
variable {P : Program} {ρ : Ren} {n T e lo b s bt : Nat} {v : Value} {l : List UInt8} {G : Gp} {S0 : BS} {σ0 σ : St} {L R : List Ch} {r : Nat → Value} {dst : Option Nat} {ty : TypeId} {pos : String} {af : Array Edge} {gd : Option (Nat × Bool)} {o : Oper}
theorem ex_allocSb (e : Nat) (H : Hp S0 σ0 σ L) (hlo : lo ≤ σ0.size) (hi : TI P T (.agg #[(.pointer none), (.slice none 0 0)]) s bt) :
    Ex P σ n r ⟨dst, .alloc T, ty, pos, af, gd⟩ fun v σ' => ∃ b, v = pt b 0 ∧ Hp S0 σ0 σ' (Ch.sb T e lo b (.slice none 0 0) [] :: L) ∧ Md (cov []) σ σ' := by
  have m := St.new_mod σ (.cells #[(.pointer none), (.slice none 0 0)] T (0, 0)) 0
  refine ⟨_, σ.new (.cells #[(.pointer none), (.slice none 0 0)] T (0, 0)) 0, ?_, σ.size, rfl, ?_, m.md0⟩
  · simp [RunW, execOp, Instr.alloc, run_zero hi, newVar, newRow, newObj, Sem.run, Value.cells, St.new, World.mk']
  · refine Hp.frame0 (A' := [Ch.sb T e lo σ.size (.slice none 0 0) []]) H (Hp.fresh m (Ch.sb T e lo σ.size (.slice none 0 0) []) ⟨⟨Nat.le_trans hlo H.size, ⟨_, .inl rfl, St.new_new _ _ _⟩, ⟨rfl, .inl ⟨rfl, rfl⟩⟩, by simp [Value.ownBlock]⟩, St.new_vis _ _ _, fun g e => by cases e⟩ (fun b hb => ?_))
    rcases hb with rfl | hb
    · exact Nat.le_refl _
    · cases hb
theorem cx_bstring (L : Lays.n169 P ρ) (X : Builder.Extra P ρ) (hS : ∀ i, ¬ S0 i) (H : Hp S0 σ0 σ (Ch.sb (ρ.t 72) (ρ.t 5) lo b v l :: R)) (hl : σ.loud) (he : Enters P n r o (ρ.f 169) [pt b 0] σ.w) :
    Cx P σ n r o fun u σ' => ∃ L' : List Ch, (u = .string ⟨l.toArray⟩ ∧ L' = []) ∧ Hp S0 σ0 σ' (L' ++ []) ∧ True := by
  obtain ⟨⟨h1, h2, h3, h4⟩, -⟩ : (Ch.sb (ρ.t 72) (ρ.t 5) lo b v l).«as» σ := H.head
  have hge : ∀ i, (i = b ∨ blk v = some i) → σ0.size ≤ i := fun i hi => by
    rcases Nat.lt_or_ge i σ0.size with h | h
    · exact (hS i (H.org i (.inl hi) h)).elim
    · exact h
  have hw : SbW (ρ.t 72) (ρ.t 5) σ0.size b v (Lib.byteCells l) σ.w := by
    refine ⟨hge b (.inl rfl), h2, ⟨h3.1, ?_⟩, h4⟩
    rcases h3.2 with h5 | ⟨g, cap, cur, rfl, h6, h7⟩
    · exact .inl h5
    · exact .inr ⟨g, cap, cur, rfl, hge g (.inr rfl), h7⟩
  refine ⟨_, _, he, (Any.Builder_String_any L X σ0.size b l σ.w hw.is H.size).mono ?_⟩
  rintro u w' ⟨rfl, hB⟩
  have hsz : σ0.w.heap.size ≤ w'.heap.size := Nat.le_trans H.size hB.size
  refine ⟨_, σ0.inW w' hsz, rfl, rfl, [], ⟨rfl, rfl⟩, ⟨⟨hB.os.trans H.md.os, hB.tape.trans H.md.tape, hB.output.trans H.md.output, .inl (H.md.loud ▸ hl), rfl, ⟨hsz, fun k ho => ?_, fun k => Nat.le_of_eq St.inW_vis.symm⟩, fun k hk hn => (hB.block k hk).trans (H.md.block k hk hn), fun k _ _ => St.inW_vis⟩, trivial, trivial, fun k hk => hk.elim⟩, trivial⟩
  have hk : k < σ0.size := by
    by_cases hb : k < σ0.size
    · exact hb
    · rw [σ0.ok k (by unfold St.size at hb; omega)] at ho; omega
  exact (hB.block k hk).trans (H.md.ext.block k ho)
end
section
variable {P : Program} {n : Nat} {G : Gp}
theorem Hp.gwl {S0 : BS} {σ0 σ : St} {L : List Ch} (H : Hp S0 σ0 σ L) (i : Nat) (h : nth L i = some (Ch.gw G)) : σ.loud := (show (Ch.gw G).«as» σ from H.get h).1
theorem cal2S {f : FuncId} {fn : Func} {c : Code} {l : List Value} {pre : List Ch} {post : Nat → Value → List Ch → Prop} (hf : P.funcs[f]? = some fn) (hnm : (fn.name == "runtime.NumGoroutine") = false) (hb : fn.body = some c) (hn : fn.ntmps = n) (hl : Nat.ble l.length n = true)
    (h : ∀ (S0 : BS) (σ0 : St) (n0 : Nat), n0 ≤ σ0.size → (∀ i, S0 i → cov pre i) → Hp S0 σ0 σ0 pre → c.wp P (bodyPost P fn (Post2 (post n0) σ0 S0)) (fr n (argsρ l)) σ0.w) : Cal2 P f l pre post :=
  ⟨⟨fn, c, hf, hnm, hb⟩, fun σ m hm H => enter hf hb hn hl (h _ σ m hm (fun _ h => h) H)⟩
end
end Go.Vs

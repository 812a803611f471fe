/- A slice that the library sorts. -/
import Derived.Test.YtanbdmdbfjonhaaGreatFilterNearestOpenEng1
import Derived.Shelf.SlSortCmp.NoneTotal
set_option linter.unusedVariables false
set_option linter.unusedSimpArgs false
namespace Go.Vs
open Go Go.Proofs Go.Shelf

theorem Md.grown {σ σ' : St} (h : Md (fun _ => False) σ σ') (hl : ¬ σ.loud) : ∃ q os, σ'.w = Go.Sort.grow (σ.w.drewN q) os := by
  refine ⟨σ'.w.drawn - σ.w.drawn, σ'.w.heap.extract σ.w.heap.size σ'.w.heap.size, ?_⟩
  have h1 : σ'.w.heap = σ.w.heap ++ σ'.w.heap.extract σ.w.heap.size σ'.w.heap.size := by
    apply Array.ext_getElem?
    intro i
    by_cases hi : i < σ.w.heap.size
    · rw [h.block i hi id, Array.getElem?_append_left hi]
    · rw [Array.getElem?_append_right (by omega), Array.getElem?_extract]
      have hs : σ.w.heap.size ≤ σ'.w.heap.size := h.size
      by_cases hj : i < σ'.w.heap.size
      · rw [if_pos (by omega)]; congr 1; omega
      · rw [if_neg (by omega), Array.getElem?_eq_none (by omega)]
  have h2 : σ.w.drawn + (σ'.w.drawn - σ.w.drawn) = σ'.w.drawn := by have := h.dr.resolve_left hl; omega
  have e1 := h.os; have e2 := h.tape; have e3 := h.output
  unfold Go.Sort.grow World.drewN
  cases hw : σ'.w with
  | mk hp tp dr os out =>
    rw [hw] at h1 h2 e1 e2 e3
    simp only at h1 h2 e1 e2 e3 ⊢
    rw [← h1, h2, e1, e2, e3]

section
theorem sw_heap {E : Type} [Inhabited E] (enc : E → List Value) (k : Nat) (w : World) (blk off m : Nat) (dk : Array E) (os : Array Obj) :
    (sortWorldK enc k w blk off m dk os).heap = w.heap.modify blk (Go.Sort.onCells (Go.Sort.putCells id off (Go.Sort.flatK enc k dk))) ++ os := rfl
theorem sw_other {E : Type} [Inhabited E] {enc : E → List Value} {k : Nat} {w : World} {blk off m : Nat} {dk : Array E} {os : Array Obj} {b : Nat} (hb : b < w.heap.size) (hne : b ≠ blk) :
    (sortWorldK enc k w blk off m dk os).heap[b]? = w.heap[b]? := by
  rw [sw_heap, Array.getElem?_append_left (by simpa using hb), Array.getElem?_modify, if_neg (Ne.symm hne)]
theorem sw_row {E : Type} [Inhabited E] {enc : E → List Value} {k : Nat} {w : World} {blk off m : Nat} {dk : Array E} {os : Array Obj} {C : Array Value} {T : TypeId} {fr : Nat × Nat} (h : w.heap[blk]? = some (.cells C T fr)) :
    ∃ C', (sortWorldK enc k w blk off m dk os).heap[blk]? = some (.cells C' T fr) ∧ C'.size = C.size := by
  have hb := lt_of_block h
  refine ⟨Go.Sort.putCells id off (Go.Sort.flatK enc k dk) C, ?_, by simp [Go.Sort.putCells]⟩
  rw [sw_heap, Array.getElem?_append_left (by simpa using hb), Array.getElem?_modify, if_pos rfl, h]
  rfl
theorem sw_size {E : Type} [Inhabited E] {enc : E → List Value} {k : Nat} {w : World} {blk off m : Nat} {dk : Array E} {os : Array Obj} : w.heap.size ≤ (sortWorldK enc k w blk off m dk os).heap.size := by
  rw [sw_heap]; simp
def St.inW (σ : St) (w : World) (h : σ.w.heap.size ≤ w.heap.size) : St := ⟨w, fun b => if b < σ.size then σ.vis b else 0, fun b hb => if_neg (by unfold St.size; omega), σ.loud⟩
theorem St.inW_vis {σ : St} {w : World} {h : σ.w.heap.size ≤ w.heap.size} {b : Nat} : (σ.inW w h).vis b = σ.vis b := by
  show (if b < σ.size then σ.vis b else 0) = _
  split
  · rfl
  · exact (σ.ok b (by unfold St.size at *; omega)).symm
theorem St.inW_ext {σ : St} {w : World} {h : σ.w.heap.size ≤ w.heap.size} {blk : Nat} (h0 : σ.vis blk = 0) (hh : ∀ b, b < σ.size → b ≠ blk → w.heap[b]? = σ.w.heap[b]?) : Ext σ (σ.inW w h) := by
  refine ⟨h, fun b ho => ?_, fun b => Nat.le_of_eq St.inW_vis.symm⟩
  by_cases hb : b < σ.size
  · by_cases hne : b = blk
    · subst hne; rw [h0] at ho; omega
    · exact hh b hb hne
  · rw [σ.ok b (by unfold St.size at hb; omega)] at ho; omega

variable {P : Program} {ρr : Ren} {α : Type} [Rp α]
theorem sort_cal2 (L : SlLaysF0.n6 P ρr) (aE : ∀ w, (isAgg (ρr.t 24)).run P w = .ok true w) (zE : ∀ w, (Go.sizeOf (ρr.t 24)).run P w = .ok (Rp.sz α) w) {xs : List α} {a : Option Addr} {c : Nat} {g : FuncId} {cb : List Value} {B : List Ch} (cmp : α → α → Int) (hL : Lc cmp xs) (hn : xs.length ≤ 1000000)
    (hg : ∃ fn c, P.funcs[g]? = some fn ∧ (fn.name == "runtime.NumGoroutine") = false ∧ fn.body = some c)
    (Pub : St → Prop) (hE : ∀ σ σ', Ext σ σ' → Pub σ → Pub σ') (hB : ∀ σ, allAs σ B → apart B → ∃ σp, Pb (cov B) σ σp ∧ Pub σp)
    (hc : ∀ σ, ¬ σ.loud → Pub σ → ∀ x ∈ xs, ∀ y ∈ xs, ∀ cx cy, Rp.rp 0 σ cx x → Rp.rp 0 σ cy y → Calls P g ([Value.agg cx.toArray, Value.agg cy.toArray] ++ cb).toArray σ.w fun e w' => e = .returned (I (cmp x y)) ∧ ∃ q os, w' = Go.Sort.grow (σ.w.drewN q) os) :
    Cal2 P (ρr.f 6) [Sl a xs c, .func (.func g) #[] cb.toArray] (Ch.own 0 0 (Sl a xs c) xs :: B) (fun _ v L' => v = .tuple #[] ∧ L' = Ch.own 0 0 (Sl a (sortL cmp xs) c) (sortL cmp xs) :: B) := by
  obtain ⟨nm, hnm, hfn⟩ := id L.f6
  refine ⟨⟨_, _, hfn, hnm, rfl⟩, fun σ m hm H => ?_⟩
  by_cases hxs : xs = []
  · subst hxs
    have h0 := AnyF.slices_SortFunc_none L a c (.func (.func g) #[] cb.toArray) σ.w
    refine h0.mono ?_
    rintro e w' ⟨rfl, rfl⟩
    refine ⟨_, σ, _, rfl, rfl, ⟨rfl, rfl⟩, ?_⟩
    have e0 : sortL cmp ([] : List α) = [] := by simp [sortL]
    rw [e0]; exact H
  rcases (H.head : Ow σ 0 0 (Sl a xs c) xs) with ⟨_, h0⟩ | ⟨b, o, c', C, T, hv, h2, h3, h4, h5, h6, h7⟩
  · exact absurd h0 hxs
  obtain ⟨rfl, rfl⟩ : a = some ⟨b, o, none⟩ ∧ c = c' := by
    simp only [Sl, Value.slice.injEq, true_and] at hv; exact hv
  obtain ⟨σp, pp, hPub⟩ := hB σ H.all.2 H.ap.2
  have hbB : ¬ cov B b := H.ap.1 b rfl
  have hbs : b < σ.w.heap.size := lt_of_block h3
  have hp0 : σp.vis b = 0 := (pp.vis b hbB).trans h6
  have hpw : σp.w = σ.w := pp.w
  -- the elements with their cells
  let E := {p : List Value × α // p.2 ∈ xs ∧ Rp.rp 0 σ p.1 p.2}
  let enc : E → List Value := fun e => e.1.1
  let el : Fin xs.length → E := fun i => ⟨(Classical.choose (h7 i.1 i.2), xs[i.1]), List.getElem_mem _, (Classical.choose_spec (h7 i.1 i.2)).1⟩
  have hel : ∀ i, (hi : i < xs.length) → ∀ j, (hj : j < (enc (el ⟨i, hi⟩)).length) → σ.cell b (o + i * Rp.sz α + j) = some (enc (el ⟨i, hi⟩))[j] := fun i hi => (Classical.choose_spec (h7 i hi)).2
  have hpos : 0 < xs.length := List.length_pos_iff.2 hxs
  haveI : Inhabited E := ⟨el ⟨0, hpos⟩⟩
  let d : Array E := Array.ofFn el
  have hds : d.size = xs.length := by simp [d]
  have hdi : ∀ i, (hi : i < xs.length) → d[i]! = el ⟨i, hi⟩ := fun i hi => by
    rw [getElem!_pos d i (by rw [hds]; exact hi)]; simp [d]
  have hdl : d.toList.map (fun e => e.1.2) = xs := by
    apply List.ext_getElem (by simp [hds])
    intro i h1 h2
    simp [d, el]
  have hk : ∀ e : E, (enc e).length = Rp.sz α := fun e => Rp.len e.2.2
  have h1 : ∀ e : E, ∀ v ∈ enc e, v.oneCell' = true := fun e v hv => by
    have := Rp.one e.2.2 v hv
    cases v <;> first | rfl | cases this
  have hk0 : 0 < Rp.sz α := Rp.pos
  let cf : E → E → Int := fun x y => cmp x.1.2 y.1.2
  have hO : Go.Sort.SWO (ltOf cf) := ⟨fun x => by
      simp only [ltOf, cf, decide_eq_false_iff_not]; exact hL.irrefl _ x.2.1,
    fun x y z hx hy => by
      simp only [ltOf, cf, decide_eq_true_eq] at *; exact hL.trans _ x.2.1 _ y.2.1 _ z.2.1 hx hy,
    fun x y z hx hy => by
      simp only [ltOf, cf, decide_eq_false_iff_not] at *; exact hL.letrans z.2.1 y.2.1 x.2.1 hy hx⟩
  have hH : Go.Sort.HoldsK enc (Rp.sz α) σ.w b o d := by
    intro j hj
    rw [Go.Sort.size_flatK, hds] at hj
    have hi : j / Rp.sz α < xs.length := Nat.div_lt_of_lt_mul (by rw [Nat.mul_comm]; exact hj)
    have hm : j % Rp.sz α < (enc (el ⟨j / Rp.sz α, hi⟩)).length := by rw [hk]; exact Nat.mod_lt _ hk0
    refine ⟨?_, ?_⟩
    · have := hel _ hi _ hm
      rw [Go.Sort.get_flatK _ _ _ _ (by rw [hds]; exact hj), hdi _ hi, getElem!_pos (enc (el ⟨j / Rp.sz α, hi⟩)) (j % Rp.sz α) hm]
      have e : o + j = o + j / Rp.sz α * Rp.sz α + j % Rp.sz α := by
        have := Nat.div_add_mod j (Rp.sz α)
        rw [Nat.mul_comm] at this; omega
      rw [e]; exact this
    · unfold World.frozen?
      simp only [h3]
      simp
  obtain ⟨fn, cd, hf1, hf2, hf3⟩ := hg
  have hcmp : CmpLays P g cb.toArray enc (Rp.sz α) cf b o d.size σ.w := by
    intro mm oss dk hdk x y
    have hsz : σp.w.heap.size ≤ (sortWorldK enc (Rp.sz α) σ.w b o mm dk oss).heap.size := by rw [hpw]; exact sw_size
    have hEx : Ext σp (σp.inW _ hsz) := St.inW_ext hp0 fun b' hb' hne => by
      rw [hpw]; exact sw_other (by unfold St.size at hb'; rw [hpw] at hb'; exact hb') hne
    have hx : Ext σ (σp.inW _ hsz) := pp.md.ext.trans hEx
    have hEm := hEx.trans (Ext.mute _)
    have := hc _ (fun h => h) (hE _ _ hEm hPub) x.1.2 x.2.1 y.1.2 y.2.1 x.1.1 y.1.1 (Rp.ext (hx.trans (Ext.mute _)) x.2.2) (Rp.ext (hx.trans (Ext.mute _)) y.2.2)
    have e0 : (#[Value.agg (enc x).toArray, Value.agg (enc y).toArray] ++ cb.toArray : Array Value) = ([Value.agg x.1.1.toArray, Value.agg y.1.1.toArray] ++ cb).toArray := by simp [enc]
    rw [e0]; exact this
  have hs := AnyQ.slices_SortFunc L (Rp.sz α) aE zE enc hk h1 cf hO g cb.toArray b o c d σ.w (enters_of hf1 hf2 hf3) hcmp hH hbs (by rw [hds]; omega)
  rw [hds] at hs
  refine hs.mono ?_
  rintro e w' ⟨rfl, d', n, os, hp, hsd, rfl⟩
  have hd' : d'.size = xs.length := hp.1.trans hds
  have hperm : d'.toList.Perm d.toList := by
    have := hp.2.2
    simp only [← hds] at this
    have e1 : (d'.extract 0 d.size).toList = d'.toList := by simp [← hp.1]
    have e2 : (d.extract 0 d.size).toList = d.toList := by simp
    rwa [e1, e2] at this
  have hr : d'.toList.map (fun e => e.1.2) = sortL cmp xs := by
    refine sortL_uniq hL (by have := hperm.map (fun e : E => e.1.2); rwa [hdl] at this) ?_
    rw [List.pairwise_map, List.pairwise_iff_getElem]
    intro i j hi hj hij
    have hi' : i < d'.size := by simpa using hi
    have hj' : j < d'.size := by simpa using hj
    have := hsd i j (Nat.zero_le _) hij (by omega)
    rw [getElem!_pos d' i hi', getElem!_pos d' j hj'] at this
    simpa [ltOf, cf] using this
  have hlen : (sortL cmp xs).length = xs.length := sortL_len
  have hex : Ext σ (σ.inW (sortWorldK enc (Rp.sz α) σ.w b o n d' os) sw_size) := St.inW_ext h6 fun b' hb' hne => sw_other hb' hne
  have hmd : Md (fun i => i = b) σ (σ.inW (sortWorldK enc (Rp.sz α) σ.w b o n d' os) sw_size) :=
    ⟨rfl, rfl, rfl, .inr (Nat.le_add_right _ _), rfl, hex, fun i hi hne => sw_other hi hne, fun i _ _ => St.inW_vis⟩
  refine ⟨_, σ.inW (sortWorldK enc (Rp.sz α) σ.w b o n d' os) sw_size, _, rfl, rfl, ⟨rfl, rfl⟩, ⟨hmd.mono fun i hi => .inl (by subst hi; rfl), ⟨?_, allAs_md H.all.2 hmd fun i hi he => hbB (he ▸ hi)⟩, H.ap, fun i hi _ => hi⟩⟩
  obtain ⟨C', h3', hC'⟩ := sw_row (enc := enc) (k := Rp.sz α) (off := o) (m := n) (dk := d') (os := os) h3
  refine .inr ⟨b, o, c, C', T, rfl, Nat.zero_le _, h3', by omega, by omega, St.inW_vis.trans h6, fun i hi => ?_⟩
  have hi' : i < d'.size := by omega
  have hx : (sortL cmp xs)[i] = d'[i].1.2 := by
    have : ∀ l : List α, l = d'.toList.map (fun e => e.1.2) → ∀ h : i < l.length, l[i] = d'[i].1.2 := by rintro l rfl h; simp
    exact this _ hr.symm hi
  rw [hx]
  refine ⟨d'[i].1.1, Rp.ext hex d'[i].2.2, fun j hj => ?_⟩
  have hjk : j < Rp.sz α := by rw [← Rp.len d'[i].2.2]; exact hj
  have hHs := holdsK_sortWorldK_c enc (Rp.sz α) σ.w b o d d' n os hH hbs hp.1
  have hij : i * Rp.sz α + j < d'.size * Rp.sz α := by
    have : (i + 1) * Rp.sz α ≤ d'.size * Rp.sz α := Nat.mul_le_mul_right _ hi'
    rw [Nat.add_mul, Nat.one_mul] at this; omega
  have h8 := (hHs (i * Rp.sz α + j) (by rw [Go.Sort.size_flatK]; exact hij)).1
  rw [Go.Sort.get_flatK _ _ _ _ hij] at h8
  have e1 : (i * Rp.sz α + j) / Rp.sz α = i := by rw [Nat.mul_comm, Nat.mul_add_div hk0, Nat.div_eq_of_lt hjk]; rfl
  have e2 : (i * Rp.sz α + j) % Rp.sz α = j := by rw [Nat.mul_comm, Nat.mul_add_mod]; exact Nat.mod_eq_of_lt hjk
  rw [e1, e2, getElem!_pos d' i hi', getElem!_pos _ j hj] at h8
  rw [← Nat.add_assoc] at h8
  exact h8
end

section
variable {α : Type} [Rp α]
omit [Rp α] in
theorem Cal2.conv {P : Program} {f : FuncId} {args : List Value} {pre : List Ch} {post post' : Nat → Value → List Ch → Prop} (hc : Cal2 P f args pre post) (k : ∀ m v L, post m v L → ∃ L', post' m v L' ∧ ∀ {S0 : BS} {σ0 σ : St}, Hp S0 σ0 σ L → Hp S0 σ0 σ L') : Cal2 P f args pre post' :=
  ⟨hc.fn, fun σ m hm H => (hc.runs σ m hm H).mono (by
    rintro e w' ⟨v, σ', L, rfl, rfl, hp, H'⟩
    obtain ⟨L', h1, h2⟩ := k m v L hp
    exact ⟨v, σ', L', rfl, rfl, h1, h2 H'⟩)⟩
end
end Go.Vs

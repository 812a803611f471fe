/- The functions compute what their models say. -/
import Derived.Test.YtdjjikmfkejdiaeGreatKExactWalkToC3
set_option linter.unusedVariables false
set_option linter.unusedSimpArgs false
set_option maxRecDepth 20000
namespace Go.Vs
open Go Go.Proofs
attribute [local irreducible] Code.wp Code.wpIn wpList wpListIn wpQuiet Calls CallsIn

def sort124_ren : Go.Shelf.Ren := ⟨fun | 6 => 124 | 15 => 136 | 14 => 135 | 28 => 147 | 29 => 148 | 20 => 139 | 21 => 140 | 22 => 141 | 23 => 142 | 24 => 143 | 25 => 144 | 26 => 145 | 27 => 146 | 46 => 157 | 47 => 158 | 48 => 159 | 49 => 160 | 50 => 161 | 57 => 165 | n => n, fun | 22 => 33 | 24 => 62 | 25 => 137 | 3 => 3 | 39 => 132 | 0 => 0 | 53 => 148 | 55 => 150 | 4 => 4 | 46 => 157 | 45 => 156 | 50 => 90 | 5 => 5 | 9 => 9 | 66 => 167 | 70 => 171 | 76 => 175 | 77 => 176 | n => n, fun | n => n⟩
theorem sort124 : Go.Proofs.SlLaysF0.n6 Tryz.prog sort124_ren := {
  mixed := by kernel_rfl
  f6 := ⟨Tryz.f124.name, by decide, Tryz.func124.trans (congrArg some (by kernel_rfl))⟩
  f14 := ⟨Tryz.f135.name, by decide, Tryz.func135.trans (congrArg some (by kernel_rfl))⟩
  f15 := Tryz.func136.trans (congrArg some (by kernel_rfl))
  f20 := ⟨Tryz.f139.name, by decide, Tryz.func139.trans (congrArg some (by kernel_rfl))⟩
  f21 := ⟨Tryz.f140.name, by decide, Tryz.func140.trans (congrArg some (by kernel_rfl))⟩
  f22 := ⟨Tryz.f141.name, by decide, Tryz.func141.trans (congrArg some (by kernel_rfl))⟩
  f23 := ⟨Tryz.f142.name, by decide, Tryz.func142.trans (congrArg some (by kernel_rfl))⟩
  f24 := ⟨Tryz.f143.name, by decide, Tryz.func143.trans (congrArg some (by kernel_rfl))⟩
  f25 := ⟨Tryz.f144.name, by decide, Tryz.func144.trans (congrArg some (by kernel_rfl))⟩
  f26 := ⟨Tryz.f145.name, by decide, Tryz.func145.trans (congrArg some (by kernel_rfl))⟩
  f27 := ⟨Tryz.f146.name, by decide, Tryz.func146.trans (congrArg some (by kernel_rfl))⟩
  f28 := Tryz.func147.trans (congrArg some (by kernel_rfl))
  f29 := Tryz.func148.trans (congrArg some (by kernel_rfl))
  f46 := ⟨Tryz.f157.name, by decide, Tryz.func157.trans (congrArg some (by kernel_rfl))⟩
  f47 := Tryz.func158.trans (congrArg some (by kernel_rfl))
  f48 := Tryz.func159.trans (congrArg some (by kernel_rfl))
  f49 := ⟨Tryz.f160.name, by decide, Tryz.func160.trans (congrArg some (by kernel_rfl))⟩
  f50 := ⟨Tryz.f161.name, by decide, Tryz.func161.trans (congrArg some (by kernel_rfl))⟩
  f57 := ⟨Tryz.f165.name, by decide, Tryz.func165.trans (congrArg some (by kernel_rfl))⟩
  t0 := Tryz.underlying0
  a0 := Tryz.isAgg0
  z0 := Tryz.sizeOf0
  v0 := Tryz.zeroValue0
  t3 := Tryz.underlying3
  a3 := Tryz.isAgg3
  z3 := Tryz.sizeOf3
  v3 := Tryz.zeroValue3
  t4 := Tryz.underlying4
  a4 := Tryz.isAgg4
  z4 := Tryz.sizeOf4
  v4 := Tryz.zeroValue4
  t5 := Tryz.underlying5
  a5 := Tryz.isAgg5
  z5 := Tryz.sizeOf5
  v5 := Tryz.zeroValue5
  t9 := Tryz.underlying9
  a9 := Tryz.isAgg9
  z9 := Tryz.sizeOf9
  v9 := Tryz.zeroValue9
  t22 := Tryz.underlying33
  a22 := Tryz.isAgg33
  z22 := Tryz.sizeOf33
  v22 := Tryz.zeroValue33
  t25 := Tryz.underlying137
  a25 := Tryz.isAgg137
  z25 := Tryz.sizeOf137
  v25 := Tryz.zeroValue137
  t39 := Tryz.underlying132
  a39 := Tryz.isAgg132
  z39 := Tryz.sizeOf132
  v39 := Tryz.zeroValue132
  t45 := Tryz.underlying156
  a45 := Tryz.isAgg156
  z45 := Tryz.sizeOf156
  v45 := Tryz.zeroValue156
  t46 := Tryz.underlying157
  a46 := Tryz.isAgg157
  z46 := Tryz.sizeOf157
  v46 := Tryz.zeroValue157
  t50 := Tryz.underlying90
  a50 := Tryz.isAgg90
  z50 := Tryz.sizeOf90
  v50 := Tryz.zeroValue90
  t53 := Tryz.underlying148
  a53 := Tryz.isAgg148
  z53 := Tryz.sizeOf148
  v53 := Tryz.zeroValue148
  t55 := Tryz.underlying150
  a55 := Tryz.isAgg150
  z55 := Tryz.sizeOf150
  v55 := Tryz.zeroValue150
  t66 := Tryz.underlying167
  a66 := Tryz.isAgg167
  z66 := Tryz.sizeOf167
  v66 := Tryz.zeroValue167
  t70 := Tryz.underlying171
  a70 := Tryz.isAgg171
  z70 := Tryz.sizeOf171
  v70 := Tryz.zeroValue171
  t76 := Tryz.underlying175
  a76 := Tryz.isAgg175
  z76 := Tryz.sizeOf175
  v76 := Tryz.zeroValue175
  t77 := Tryz.underlying176
  a77 := Tryz.isAgg176
  z77 := Tryz.sizeOf176
  v77 := Tryz.zeroValue176 }

theorem c_slices_SortFunc_impl_Item_impl_Item__impl_sortByDistance_1 {Az : List (Int × (List Int) × Int)} {Fx : Int} {Fy : List Int} {Eb : Option Addr} {Ec : Nat} {Ga Gb Gc : Nat} {Gd Ge : List Value} {Gf : Option Addr} {Gg : Nat} {Gh Gi Gj : Nat} {Gk Gl : List Value} {r : List (Int × (List Int) × Int)} (h : M.slices_SortFunc_impl_Item_impl_Item__impl_sortByDistance_1 Az Fx Fy = some r) :
    Cal2 Tryz.prog 124 [(Sl Eb Az Ec), (.func (.func 125) #[] #[(pt Gb Gc), (pt Gi Gj)])] [Ch.own 0 0 (Sl Eb Az Ec) Az, Ch.bx Ga Gb Gc [(I Fx)] Gd Ge, Ch.bx Gh Gi Gj [(Sl Gf Fy Gg)] Gk Gl, Ch.ro 0 (Sl Gf Fy Gg) Fy] (fun n0 v L => v = (.tuple #[]) ∧ L = [Ch.own 0 0 (Sl Eb r Ec) r, Ch.bx Ga Gb Gc [(I Fx)] Gd Ge, Ch.bx Gh Gi Gj [(Sl Gf Fy Gg)] Gk Gl] ∧ r.length = Az.length) := by
 obtain ⟨hn, hs, hL, rfl⟩ := sortD_some h
 have hE : ∀ σ σ' : St, Ext σ σ' → (RS 0 σ (Sl (some ⟨Gb, Gc, none⟩) ([Fx] : List Int) 1) ([Fx] : List Int) ∧ RS 0 σ (Sl (some ⟨Gi, Gj, none⟩) ([Fy] : List (List Int)) 1) ([Fy] : List (List Int)) ∧ RS 0 σ (Sl Gf Fy Gg) Fy) → (RS 0 σ' (Sl (some ⟨Gb, Gc, none⟩) ([Fx] : List Int) 1) ([Fx] : List Int) ∧ RS 0 σ' (Sl (some ⟨Gi, Gj, none⟩) ([Fy] : List (List Int)) 1) ([Fy] : List (List Int)) ∧ RS 0 σ' (Sl Gf Fy Gg) Fy) := fun σ σ' hE hp => ⟨hp.1.ext hE, hp.2.1.ext hE, hp.2.2.ext hE⟩
 have hB : ∀ σ : St, allAs σ [Ch.bx Ga Gb Gc [(I Fx)] Gd Ge, Ch.bx Gh Gi Gj [(Sl Gf Fy Gg)] Gk Gl, Ch.ro 0 (Sl Gf Fy Gg) Fy] → apart [Ch.bx Ga Gb Gc [(I Fx)] Gd Ge, Ch.bx Gh Gi Gj [(Sl Gf Fy Gg)] Gk Gl, Ch.ro 0 (Sl Gf Fy Gg) Fy] → ∃ σp, Pb (cov [Ch.bx Ga Gb Gc [(I Fx)] Gd Ge, Ch.bx Gh Gi Gj [(Sl Gf Fy Gg)] Gk Gl, Ch.ro 0 (Sl Gf Fy Gg) Fy]) σ σp ∧ (RS 0 σp (Sl (some ⟨Gb, Gc, none⟩) ([Fx] : List Int) 1) ([Fx] : List Int) ∧ RS 0 σp (Sl (some ⟨Gi, Gj, none⟩) ([Fy] : List (List Int)) 1) ([Fy] : List (List Int)) ∧ RS 0 σp (Sl Gf Fy Gg) Fy) := by
     intro σ hA hP
     obtain ⟨σ0, p0, r0, a0⟩ := pubBox (α := Int) (x := Fx) hA hP (by exact rfl)
     obtain ⟨σ1, p1, r1, a1⟩ := pubBox (α := List Int) (x := Fy) a0 hP.2 (by exact ⟨_, rfl, (a0.2.1 : RS 0 σ0 (Sl Gf Fy Gg) Fy)⟩)
     exact ⟨σ1, (p0.trans p1).mono (fun i h => h.elim (fun h => .inl h) (fun h => .inr (.inl h))), (r0.ext p1.md.ext), r1, a1.1⟩
 have hC : ∀ σ : St, (RS 0 σ (Sl (some ⟨Gb, Gc, none⟩) ([Fx] : List Int) 1) ([Fx] : List Int) ∧ RS 0 σ (Sl (some ⟨Gi, Gj, none⟩) ([Fy] : List (List Int)) 1) ([Fy] : List (List Int)) ∧ RS 0 σ (Sl Gf Fy Gg) Fy) → ∀ x ∈ Az, ∀ y ∈ Az, ∀ cx cy, Rp.rp 0 σ cx x → Rp.rp 0 σ cy y → Calls Tryz.prog 125 ([Value.agg cx.toArray, Value.agg cy.toArray] ++ [(pt Gb Gc), (pt Gi Gj)]).toArray σ.w fun e w' => e = .returned (I ((M.impl_sortByDistance_1__p3__p24 (x.1, x.2.1, x.2.2) (y.1, y.2.1, y.2.2) Fx Fy).getD 0)) ∧ ∃ q os, w' = Go.Sort.grow (σ.w.drewN q) os := by
     intro σ hp x hx y hy cx cy rx ry
     obtain ⟨r, hr⟩ := hs x hx y hy
     obtain ⟨_, _, rfl, rfl, ⟨_, _, rfl, ⟨_, rfl, hRx_1⟩, rfl⟩⟩ := rx
     obtain ⟨_, _, rfl, rfl, ⟨_, _, rfl, ⟨_, rfl, hRy_1⟩, rfl⟩⟩ := ry
     obtain ⟨ax_1, cx_1, rfl⟩ := hRx_1.isSl
     obtain ⟨ay_1, cy_1, rfl⟩ := hRy_1.isSl
     have hc := c_impl_sortByDistance_1__p3__p24 (Ba := ax_1) (Bb := cx_1) (Ft := ay_1) (Fu := cy_1) (Ev := Gb) (Ew := Gc) (Fv := Gi) (Fw := Gj) hr
     refine (hc.runs σ 0 (Nat.zero_le _) (Hp.begin ⟨hRx_1, ⟨hRy_1, ⟨hp.1, ⟨hp.2.1, trivial⟩⟩⟩⟩ ⟨fun _ h => h.elim, ⟨fun _ h => h.elim, ⟨fun _ h => h.elim, ⟨fun _ h => h.elim, trivial⟩⟩⟩⟩)).mono ?_
     rintro e w' ⟨v, σ', L', rfl, rfl, ⟨rfl, -⟩, H⟩
     exact ⟨by rw [hr]; rfl, (H.md.mono fun i => fun h => h.elim (fun h => h.elim) (fun h => h.elim (fun h => h.elim) (fun h => h.elim (fun h => h.elim) (fun h => h.elim (fun h => h.elim) (fun h => h))))).grown⟩
 refine (sort_cal2 (α := (Int × (List Int) × Int)) sort124 Tryz.isAgg62 Tryz.sizeOf62 (xs := Az) (a := Eb) (c := Ec) (g := 125) (cb := [(pt Gb Gc), (pt Gi Gj)]) (B := [Ch.bx Ga Gb Gc [(I Fx)] Gd Ge, Ch.bx Gh Gi Gj [(Sl Gf Fy Gg)] Gk Gl, Ch.ro 0 (Sl Gf Fy Gg) Fy]) (fun x y => (M.impl_sortByDistance_1__p3__p24 (x.1, x.2.1, x.2.2) (y.1, y.2.1, y.2.2) Fx Fy).getD 0) hL hn ⟨_, _, Tryz.func125, rfl, rfl⟩ _ hE hB hC).conv ?_
 rintro m v L ⟨rfl, rfl⟩
 exact ⟨_, ⟨rfl, rfl, sortL_len⟩, fun H => H.sel' [0, 1, 2] rfl rfl⟩

theorem c_impl_sortByDistance {As : List (Int × (List Int) × Int)} {Bd : Int} {Be : List Int} {Au : Option Addr} {Av : Nat} {Bf : Option Addr} {Bg : Nat} {r : (List (Int × (List Int) × Int))} (h : M.impl_sortByDistance As Bd Be = some r) :
    Cal2 Tryz.prog 102 [(Sl Au As Av), (I Bd), (Sl Bf Be Bg)] [Ch.ro 0 (Sl Au As Av) As, Ch.ro 0 (Sl Bf Be Bg) Be] (fun n0 v L => ∃ (az1 : Option Addr), ∃ (cz2 : Nat), v = (Sl az1 r cz2) ∧ L = [Ch.own 0 0 (Sl az1 r cz2) r]) := by
 refine cal2 (n := 14) Tryz.func102 rfl rfl rfl rfl ?_
 intro S0 σ0 n0 hn0 H
 unfold M.impl_sortByDistance at h
 refine c_seq (rg (st_ex (ex_box (cs := [(I Bd)]) H hn0 rfl rfl) wn ?_))
 rintro _ σ2 ⟨b1, rfl, H, -⟩
 refine st_ex (ex_box (cs := [(Sl Bf Be Bg)]) H hn0 rfl rfl) wn ?_
 rintro _ σ4 ⟨b3, rfl, H, -⟩
 refine sa (.slice none 0 0) rfl (w_end (q_then (c_seq (rg (sm (Sl Au As Av) rfl ?_)))))
 revert h; refine br fun r5 hx6 h => ?_
 have hc7 := c_slices_Clone_impl_Item_impl_Item (Dh := Au) (Di := Av) hx6
 refine st_call (cx_call hc7 (ent_f hc7.fn rfl) hn0 (H.sel' [2, 0, 1, 2, 3] rfl rfl : Hp S0 σ0 _ ([_] ++ _))) wn ?_
 rintro _ σ10 ⟨_, ⟨a8, c9, rfl, rfl⟩, H, -⟩
 replace H : Hp _ _ _ [_, _, _, _, _] := H
 refine sa (Sl a8 r5 c9) rfl (w_end (q_then (c_seq (rg (sm (Sl a8 r5 c9) rfl (st (v := (.func (.func 125) #[] #[(pt b1 0), (pt b3 0)])) (rv_makeFunc (vs := [(pt b1 0), (pt b3 0)]) rfl) ?_))))))
 replace H := H.ownLow 0 0 0 rfl (Nat.zero_le _) (Nat.zero_le _)
 revert h; refine br fun r11 hx12 h => ?_
 have hc13 := c_slices_SortFunc_impl_Item_impl_Item__impl_sortByDistance_1 (Eb := a8) (Ec := c9) (Ga := n0) (Gb := b1) (Gc := 0) (Gd := []) (Ge := []) (Gh := n0) (Gi := b3) (Gj := 0) (Gk := []) (Gl := []) (Gf := Bf) (Gg := Bg) hx12
 refine st_call (cx_call hc13 (ent_f hc13.fn rfl) hn0 (H.sel' [0, 2, 1, 4, 3, 4] rfl rfl : Hp S0 σ0 _ ([_, _, _, _] ++ _))) wn ?_
 rintro _ σ15 ⟨_, ⟨rfl, rfl, hn14⟩, H, -⟩
 replace H : Hp _ _ _ [_, _, _, _, _] := H
 have hsl : (Sl a8 r5 c9) = (Sl a8 r11 c9) := sl_len hn14.symm
 try rw [hsl]
 try rw [hsl] at H
 clear hsl
 refine w_end (q_then (c_seq (rg (sm (Sl a8 r11 c9) rfl (sa (Sl a8 r11 c9) rfl (w_end (q_then (c_ret ?_))))))))
 obtain rfl := sj h
 exact fin_ret (v := (Sl a8 r11 c9)) (results_ok Tryz.results102 (res_tmp (v := (Sl a8 r11 c9)) rfl res_nil) rfl) ⟨a8, c9, rfl, rfl⟩ (H.sel' [0] rfl rfl)

theorem c_impl_linkItems_1__p_impl_Item {Gm : Int × (List Int) × Int} {Ek : Int × (List Int) × Int} {Gn : Option Addr} {Gp : Nat} {Gq : Option Addr} {Gr : Nat} {Em En Eo : Nat} {Ep Er : List Value} {r : Bool} (h : M.impl_linkItems_1__p_impl_Item Gm Ek = some r) :
    Cal2 Tryz.prog 101 [(.agg #[(I Gm.1), (Sl Gn Gm.2.1 Gp), (I Gm.2.2)]), (pt En Eo)] [Ch.ro 0 (Sl Gn Gm.2.1 Gp) Gm.2.1, Ch.bx Em En Eo [(I Ek.1), (Sl Gq Ek.2.1 Gr), (I Ek.2.2)] Ep Er, Ch.ro 0 (Sl Gq Ek.2.1 Gr) Ek.2.1] (fun n0 v L => v = (B r) ∧ L = [Ch.bx Em En Eo [(I Ek.1), (Sl Gq Ek.2.1 Gr), (I Ek.2.2)] Ep Er]) := by
 refine cal2 (n := 9) Tryz.func101 rfl rfl rfl rfl ?_
 intro S0 σ0 n0 hn0 H
 unfold M.impl_linkItems_1__p_impl_Item at h
 refine c_seq (rg (st_ex (ex_box (cs := [(I Gm.1), (Sl Gn Gm.2.1 Gp), (I Gm.2.2)]) H hn0 rfl rfl) wn ?_))
 rintro _ σ2 ⟨b1, rfl, H, -⟩
 refine sa (B false) rfl (w_end (q_then (c_seq (rg (st (v := (pt b1 0)) (rv_fieldAddr (off := 0) (ft := 3) Tryz.underlying62 rfl ti3 rfl rfl) ?_)))))
 have hc3 := H.cell (u := (I Gm.1)) (o' := 0) 0 0 rfl rfl rfl
 refine st (v := (I Gm.1)) (rv_load1 Tryz.underlying3 rfl rfl hc3) (st (v := (pt En Eo)) (rv_fieldAddr (off := 0) (ft := 3) Tryz.underlying62 rfl ti3 rfl rfl) ?_)
 have hc4 := H.cell (u := (I Ek.1)) (o' := Eo) 2 0 rfl rfl rfl
 refine st (v := (I Ek.1)) (rv_load1 Tryz.underlying3 rfl rfl hc4) (st (v := (B (Gm.1 != Ek.1))) (rv_neq (a := Gm.1) (b := Ek.1) rfl rfl) (sa (B (Gm.1 != Ek.1)) rfl (w_end (q_then (c_ret ?_)))))
 obtain rfl := sj h
 exact fin_ret (v := (B (Gm.1 != Ek.1))) (results_ok Tryz.results101 (res_tmp (v := (B (Gm.1 != Ek.1))) rfl res_nil) rfl) ⟨rfl, rfl⟩ (H.sel' [2] rfl rfl)

theorem c_impl_itemsThat__impl_linkItems_1 {As : List (Int × (List Int) × Int)} {Gs : Int × (List Int) × Int} {Au : Option Addr} {Av : Nat} {Gt : Option Addr} {Gu : Nat} {Gv Gw Gx : Nat} {Gy Gz : List Value} {r : (List (Int × (List Int) × Int))} (h : M.impl_itemsThat__impl_linkItems_1 As Gs = some r) :
    Cal2 Tryz.prog 54 [(Sl Au As Av), (.func (.func 101) #[] #[(pt Gw Gx)])] [Ch.ro 0 (Sl Au As Av) As, Ch.bx Gv Gw Gx [(I Gs.1), (Sl Gt Gs.2.1 Gu), (I Gs.2.2)] Gy Gz, Ch.ro 0 (Sl Gt Gs.2.1 Gu) Gs.2.1] (fun n0 v L => ∃ (az1 : Option Addr), ∃ (cz2 : Nat), v = (Sl az1 r cz2) ∧ L = [Ch.own n0 0 (Sl az1 r cz2) r, Ch.bx Gv Gw Gx [(I Gs.1), (Sl Gt Gs.2.1 Gu), (I Gs.2.2)] Gy Gz]) := by
 refine cal2 (n := 23) Tryz.func54 rfl rfl rfl rfl ?_
 intro S0 σ0 n0 hn0 H
 unfold M.impl_itemsThat__impl_linkItems_1 at h
 refine c_seq (rg (sa (.slice none 0 0) rfl (w_end (q_then (c_seq (rg (sa (.slice none 0 0) rfl (w_end (q_then (c_seq (c_seq ?_)))))))))))
 refine rg (sm (Sl Au As Av) rfl (st (v := (I (As.length : Int))) (rv_len Tryz.underlying33 rfl) (sm (I 0) rfl (w_end (q_then ?_)))))
 obtain ⟨o1, hj, h'⟩ := bind_some h
 clear h
 refine c_cut (fun e a w => e = .normal ∧ ∃ (ρ : Nat → Value) (σ : St) (aj1 : Option Addr) (cj2 : Nat), a = fr 23 (updL ρ [(1, (.func (.func 101) #[] #[(pt Gw Gx)])), (5, (Sl aj1 o1 cj2))]) ∧ w = σ.w ∧ Hp S0 σ0 σ [Ch.ro 0 (Sl Gt Gs.2.1 Gu) Gs.2.1, Ch.bx Gv Gw Gx [(I Gs.1), (Sl Gt Gs.2.1 Gu), (I Gs.2.2)] Gy Gz, Ch.own n0 0 (Sl aj1 o1 cj2) o1]) ?_ ?_
 ·clear h'
  rename _ = some o1 => h
  refine c_blk ?_
  replace H := H.nilOwn (Int × (List Int) × Int) n0 0
  refine wp_loopM _ h (fun s2 a w => ∃ (ρ : Nat → Value) (σ : St) (aj1 : Option Addr) (cj2 : Nat), a = fr 23 (updL ρ [(1, (.func (.func 101) #[] #[(pt Gw Gx)])), (5, (Sl aj1 s2.1 cj2)), (8, (Sl Au As Av)), (9, (I (As.length : Int))), (10, (I s2.2))]) ∧ w = σ.w ∧ Hp S0 σ0 σ [Ch.ro 0 (Sl Gt Gs.2.1 Gu) Gs.2.1, Ch.bx Gv Gw Gx [(I Gs.1), (Sl Gt Gs.2.1 Gu), (I Gs.2.2)] Gy Gz, Ch.own n0 0 (Sl aj1 s2.1 cj2) s2.1, Ch.ro 0 (Sl Au As Av) As]) ⟨_, σ0, none, 0, fr_join ⟨rfl, rfl, rfl, rfl, rfl, trivial⟩, rfl, H.sel' [3, 2, 0, 1] rfl rfl⟩ ?_
  clear h H
  rintro s2 a w o ⟨ρ, σ3, a4, c5, rfl, rfl, H⟩ h hres
  refine c_seq (rg (st (v := (B (decide (s2.2 < (As.length : Int))))) (rv_lss (a := s2.2) (b := (As.length : Int)) rfl rfl) (w_end (q_then (c_seq ?_)))))
  refine cd_cond (decide (s2.2 < (As.length : Int))) rfl (fun hb6 => ?_) (fun hb6 => ?_)
  ·replace h := bif_t hb6 h
   refine c_skip (q_then (c_seq ?_))
   obtain ⟨o7, hj, h'⟩ := bind_some h
   clear h
   refine c_cut (fun e a w => e = .normal ∧ ∃ (ρ : Nat → Value) (σ : St) (aj1 : Option Addr) (cj2 : Nat), a = fr 23 (updL ρ [(1, (.func (.func 101) #[] #[(pt Gw Gx)])), (5, (Sl aj1 o7 cj2)), (8, (Sl Au As Av)), (9, (I (As.length : Int))), (10, (I s2.2))]) ∧ w = σ.w ∧ Hp S0 σ0 σ [Ch.ro 0 (Sl Gt Gs.2.1 Gu) Gs.2.1, Ch.bx Gv Gw Gx [(I Gs.1), (Sl Gt Gs.2.1 Gu), (I Gs.2.2)] Gy Gz, Ch.own n0 0 (Sl aj1 o7 cj2) o7, Ch.ro 0 (Sl Au As Av) As]) ?_ ?_
   ·clear h'
    rename _ = some o7 => h
    refine c_blk (c_seq (rg ?_))
    revert h; refine br fun x8 hx9 h => ?_
    obtain ⟨b11, o12, hi10, -⟩ := (H.ro 3 rfl).ix hx9
    refine st (v := (pt b11 o12)) (rv_ix Tryz.underlying33 ti62 rfl rfl hi10) ?_
    obtain ⟨_, ⟨_, _, rfl, rfl, ⟨_, _, rfl, ⟨_, rfl, hR17⟩, rfl⟩⟩, hl13, hc14⟩ := ((H.ro 3 rfl).at hx9 hi10).cells
    obtain ⟨a15, c16, rfl⟩ := hR17.isSl
    replace H := H.add (d := Ch.ro 0 (Sl a15 x8.2.1 c16) x8.2.1) hR17 (fun _ h => h)
    clear hR17
    refine st (v := (.agg #[(I x8.1), (Sl a15 x8.2.1 c16), (I x8.2.2)])) (rv_load Tryz.underlying62 rfl ti62 rfl hl13 hc14) (st_ex (ex_alloc (cs := [(I 0), (.slice none 0 0), (I 0)]) H hn0 ti62 rfl) wn ?_)
    rintro _ σ19 ⟨b18, rfl, H, -⟩
    refine st_exS (ex_store_box (k := 0) (cs := [(I 0), (.slice none 0 0), (I 0)]) (vs := [(I x8.1), (Sl a15 x8.2.1 c16), (I x8.2.2)]) (cs' := [(I x8.1), (Sl a15 x8.2.1 c16), (I x8.2.2)]) H (i := 0) rfl ti62 rfl rfl rfl rfl rfl (Nat.le_of_ble_eq_true rfl) (by simp [plain]) rfl) wn ?_
    rintro σ20 ⟨H, -⟩
    refine w_end (q_then (c_seq (rg (sm (.func (.func 101) #[] #[(pt Gw Gx)]) rfl ?_))))
    have hc21 := H.cells 0 rfl
    refine st (v := (.agg #[(I x8.1), (Sl a15 x8.2.1 c16), (I x8.2.2)])) (rv_load (cs := [(I x8.1), (Sl a15 x8.2.1 c16), (I x8.2.2)]) Tryz.underlying62 rfl ti62 rfl rfl hc21) ?_
    revert h; refine br fun r22 hx23 h => ?_
    have hc24 := c_impl_linkItems_1__p_impl_Item (Gn := a15) (Gp := c16) (Em := Gv) (En := Gw) (Eo := Gx) (Ep := Gy) (Er := Gz) (Gq := Gt) (Gr := Gu) hx23
    refine st_call (cx_call hc24 (ent_v (cap := [(pt Gw Gx)]) hc24.fn rfl rfl) hn0 (H.sel' [1, 3, 2, 0, 1, 2, 4, 5] rfl rfl : Hp S0 σ0 _ ([_, _, _] ++ _))) wn ?_
    rintro _ σ25 ⟨_, ⟨rfl, rfl⟩, H, -⟩
    replace H : Hp _ _ _ [_, _, _, _, _, _] := H
    refine w_end (q_then ?_)
    refine cd_cond r22 rfl (fun hb26 => ?_) (fun hb26 => ?_)
    ·replace h := bif_t hb26 h
     refine rg (sm (Sl a4 s2.1 c5) rfl ?_)
     have hc27 := H.cells 1 rfl
     refine st (v := (.agg #[(I x8.1), (Sl a15 x8.2.1 c16), (I x8.2.2)])) (rv_load (cs := [(I x8.1), (Sl a15 x8.2.1 c16), (I x8.2.2)]) Tryz.underlying62 rfl ti62 rfl rfl hc27) ?_
     refine st_ex (ex_buildSlice (el := 0) (xs := ([(x8.1, x8.2.1, x8.2.2)] : List (Int × (List Int) × Int))) (ps := [(0, (.agg #[(I x8.1), (Sl a15 x8.2.1 c16), (I x8.2.2)]))]) (cs := [(I x8.1), (Sl a15 x8.2.1 c16), (I x8.2.2)]) H hn0 Tryz.underlying33 ti62 rfl rfl (by kernel_rfl) (.cons (c := [(I x8.1), (Sl a15 x8.2.1 c16), (I x8.2.2)]) ⟨[(I x8.1)], [(Sl a15 x8.2.1 c16), (I x8.2.2)], rfl, rfl, ⟨[(Sl a15 x8.2.1 c16)], [(I x8.2.2)], rfl, ⟨_, rfl, (H.ro 2 rfl)⟩, rfl⟩⟩ (.nil)) rfl) wn ?_
     rintro _ σ29 ⟨b28, rfl, H, -⟩
     revert h; refine br fun xs30 hx31 h => ?_
     refine st_ex (ex_append H (i := 5) rfl Tryz.underlying33 Tryz.underlying33 ti62 rfl rfl (by decide) (H.own 0 rfl).rd hx31 hn0 rfl rfl) wn ?_
     rintro _ σ34 ⟨a32, c33, rfl, H, -⟩
     refine sa (Sl a32 xs30 c33) rfl (w_end (q_blk ?_))
     obtain rfl := sj h
     exact ⟨rfl, _, σ34, a32, c33, fr_join ⟨rfl, rfl, rfl, rfl, rfl, trivial⟩, rfl, H.sel' [5, 2, 0, 6] rfl rfl⟩
    ·replace h := bif_f hb26 h
     refine c_skip (q_blk ?_)
     obtain rfl := sj h
     exact ⟨rfl, _, σ25, a4, c5, fr_join ⟨rfl, rfl, rfl, rfl, rfl, trivial⟩, rfl, H.sel' [3, 0, 4, 5] rfl rfl⟩
   ·clear hj
    have h := h'
    clear h' H
    rintro e a w ⟨rfl, ρ, σ35, a36, c37, rfl, rfl, H⟩
    refine q_then (rg (st (v := (I (w64 (s2.2 + 1)))) (rv_add (a := s2.2) (b := 1) rfl rfl) (sm (I (w64 (s2.2 + 1))) rfl (w_end (q_then ?_)))))
    obtain rfl := sj h
    exact ⟨_, rfl, _, σ35, a36, c37, fr_join ⟨rfl, rfl, rfl, rfl, rfl, trivial⟩, rfl, H.sel' [0, 1, 2, 3] rfl rfl⟩
  ·replace h := bif_f hb6 h
   refine c_exit (q_then_x (q_then_x (q_blk_hit ?_)))
   obtain rfl := sj h
   obtain rfl := hres _ rfl
   exact ⟨rfl, _, σ3, a4, c5, fr_join ⟨rfl, rfl, trivial⟩, rfl, H.sel' [0, 1, 2] rfl rfl⟩
 ·clear hj
  have h := h'
  clear h' H
  rintro e a w ⟨rfl, ρ, σ38, a39, c40, rfl, rfl, H⟩
  refine q_then (c_seq (rg (sm (Sl a39 o1 c40) rfl (sa (Sl a39 o1 c40) rfl (w_end (q_then (c_ret ?_)))))))
  obtain rfl := sj h
  exact fin_ret (v := (Sl a39 o1 c40)) (results_ok Tryz.results54 (res_tmp (v := (Sl a39 o1 c40)) rfl res_nil) rfl) ⟨a39, c40, rfl, rfl⟩ (H.sel' [2, 1] rfl rfl)

theorem c_impl_linkItems {As : List (Int × (List Int) × Int)} {Bd : Int} {Br : Int} {Au : Option Addr} {Av : Nat} {r : (List (Int × (List (Int × (List Int) × Int))))} (h : M.impl_linkItems As Bd Br = some r) :
    Cal2 Tryz.prog 71 [(Sl Au As Av), (I Bd), (I Br)] [Ch.ro 0 (Sl Au As Av) As] (fun n0 v L => ∃ (bz1 : Nat), ∃ (Kz2 : List Ch), v = (.map (some bz1)) ∧ L = [Ch.big Kz2] ∧ Mp 0 0 bz1 r Kz2) := by
 refine cal2 (n := 38) Tryz.func71 rfl rfl rfl rfl ?_
 intro S0 σ0 n0 hn0 H
 unfold M.impl_linkItems at h
 refine c_seq (rg (sa (.map none) rfl (w_end (q_then (c_seq (rg (st_ex (ex_makeMap (lo := 0) (Int × (List Int) × Int) 0 H (Nat.zero_le _)) wn ?_)))))))
 rintro _ σ4 ⟨b1, K2, rfl, hK3, H, -⟩
 refine sa (.map (some b1)) rfl (w_end (q_then (c_seq (c_seq (rg (sm (Sl Au As Av) rfl (st (v := (I (As.length : Int))) (rv_len Tryz.underlying33 rfl) (sm (I 0) rfl (w_end (q_then ?_))))))))))
 obtain ⟨o5, hj, h'⟩ := bind_some h
 clear h
 refine c_cut (fun e a w => e = .normal ∧ ∃ (ρ : Nat → Value) (σ : St) (bj1 : Nat) (Kj2 : List Ch), a = fr 38 (updL ρ [(7, (.map (some bj1)))]) ∧ w = σ.w ∧ Hp S0 σ0 σ [Ch.big Kj2] ∧ Mp 0 0 bj1 o5 Kj2) ?_ ?_
 ·clear h'
  rename _ = some o5 => h
  refine c_blk (wp_loopM _ h (fun s6 a w => ∃ (ρ : Nat → Value) (σ : St) (bj1 : Nat) (Kj2 : List Ch), a = fr 38 (updL ρ [(0, (Sl Au As Av)), (1, (I Bd)), (2, (I Br)), (7, (.map (some bj1))), (13, (Sl Au As Av)), (14, (I (As.length : Int))), (15, (I s6.2))]) ∧ w = σ.w ∧ Hp S0 σ0 σ [Ch.ro 0 (Sl Au As Av) As, Ch.big Kj2] ∧ Mp 0 0 bj1 s6.1 Kj2) ⟨_, σ4, b1, K2, fr_join ⟨rfl, rfl, rfl, rfl, rfl, rfl, rfl, trivial⟩, rfl, H.sel' [1, 0] rfl rfl, hK3⟩ ?_)
  clear h H
  rintro s6 a w o ⟨ρ, σ7, b8, K9, rfl, rfl, H, hK10⟩ h hres
  refine c_seq (rg (st (v := (B (decide (s6.2 < (As.length : Int))))) (rv_lss (a := s6.2) (b := (As.length : Int)) rfl rfl) (w_end (q_then (c_seq ?_)))))
  refine cd_cond (decide (s6.2 < (As.length : Int))) rfl (fun hb11 => ?_) (fun hb11 => ?_)
  ·replace h := bif_t hb11 h
   refine c_skip (q_then (c_seq (c_blk (c_seq (rg ?_)))))
   revert h; refine br fun x12 hx13 h => ?_
   obtain ⟨b15, o16, hi14, -⟩ := (H.ro 0 rfl).ix hx13
   refine st (v := (pt b15 o16)) (rv_ix Tryz.underlying33 ti62 rfl rfl hi14) ?_
   obtain ⟨_, ⟨_, _, rfl, rfl, ⟨_, _, rfl, ⟨_, rfl, hR21⟩, rfl⟩⟩, hl17, hc18⟩ := ((H.ro 0 rfl).at hx13 hi14).cells
   obtain ⟨a19, c20, rfl⟩ := hR21.isSl
   replace H := H.add (d := Ch.ro 0 (Sl a19 x12.2.1 c20) x12.2.1) hR21 (fun _ h => h)
   clear hR21
   refine st (v := (.agg #[(I x12.1), (Sl a19 x12.2.1 c20), (I x12.2.2)])) (rv_load Tryz.underlying62 rfl ti62 rfl hl17 hc18) (st_ex (ex_alloc (cs := [(I 0), (.slice none 0 0), (I 0)]) H hn0 ti62 rfl) wn ?_)
   rintro _ σ23 ⟨b22, rfl, H, -⟩
   refine st_exS (ex_store_box (k := 0) (cs := [(I 0), (.slice none 0 0), (I 0)]) (vs := [(I x12.1), (Sl a19 x12.2.1 c20), (I x12.2.2)]) (cs' := [(I x12.1), (Sl a19 x12.2.1 c20), (I x12.2.2)]) H (i := 0) rfl ti62 rfl rfl rfl rfl rfl (Nat.le_of_ble_eq_true rfl) (by simp [plain]) rfl) wn ?_
   rintro σ24 ⟨H, -⟩
   refine w_end (q_then (c_seq (rg (sm (Sl Au As Av) rfl (st (v := (.func (.func 101) #[] #[(pt b22 0)])) (rv_makeFunc (vs := [(pt b22 0)]) rfl) ?_)))))
   revert h; refine br fun r25 hx26 h => ?_
   have hc27 := c_impl_itemsThat__impl_linkItems_1 (Au := Au) (Av := Av) (Gv := n0) (Gw := b22) (Gx := 0) (Gy := []) (Gz := []) (Gt := a19) (Gu := c20) hx26
   refine st_call (cx_call hc27 (ent_f hc27.fn rfl) hn0 (H.sel' [2, 0, 1, 1, 2, 3] rfl rfl : Hp S0 σ0 _ ([_, _, _] ++ _))) wn ?_
   rintro _ σ30 ⟨_, ⟨a28, c29, rfl, rfl⟩, H, -⟩
   replace H : Hp _ _ _ [_, _, _, _, _] := H
   refine sa (Sl a28 r25 c29) rfl (w_end (q_then (c_seq (rg (sm (Sl a28 r25 c29) rfl (sm (I Bd) rfl (st (v := (pt b22 1)) (rv_fieldAddr (off := 1) (ft := 26) Tryz.underlying62 rfl ti26 rfl rfl) ?_)))))))
   have hc31 := H.cell (u := (Sl a19 x12.2.1 c20)) (o' := 1) 1 1 rfl rfl rfl
   refine st (v := (Sl a19 x12.2.1 c20)) (rv_load1 Tryz.underlying26 rfl rfl hc31) ?_
   obtain ⟨σ32, hw33, H, -⟩ := H.pub 0 rfl (Nat.zero_le _)
   rw [← hw33]; clear hw33
   revert h; refine br fun r34 hx35 h => ?_
   have hc36 := c_impl_sortByDistance (Au := a28) (Av := c29) (Bf := a19) (Bg := c20) hx35
   refine st_call (cx_call hc36 (ent_f hc36.fn rfl) hn0 (H.sel' [0, 2, 0, 1, 2, 3, 4] rfl rfl : Hp S0 σ0 _ ([_, _] ++ _))) wn ?_
   rintro _ σ39 ⟨_, ⟨a37, c38, rfl, rfl⟩, H, -⟩
   replace H : Hp _ _ _ [_, _, _, _, _, _] := H
   refine sa (Sl a37 r34 c38) rfl (w_end (q_then ?_))
   refine rgP (σ := σ39) 9 (by kernel_rfl) (by kernel_rfl) (by kernel_rfl) ?_
   refine sq (v := (.map (some b8))) (rv_move rfl) (sq (v := (pt b22 0)) (rv_fieldAddr (off := 0) (ft := 3) Tryz.underlying62 rfl ti3 rfl rfl) ?_)
   have hc40 := H.cell (u := (I x12.1)) (o' := 0) 2 0 rfl rfl rfl
   refine sq (v := (I x12.1)) (rv_load1 Tryz.underlying3 rfl rfl hc40) (sq (v := (Sl a37 r34 c38)) (rv_move rfl) (sq (v := (I Br)) (rv_move rfl) (sq (v := (Sl a37 r34 c38)) (rv_move rfl) (sq (v := (I (r34.length : Int))) (rv_len Tryz.underlying33 rfl) (sq (v := (I (min Br (r34.length : Int)))) (rv_min rfl rfl) ?_)))))
   revert h; refine br fun xs41 hx42 h => ?_
   obtain ⟨a43, c44, hs45, hR46, hb47⟩ := (H.own 0 rfl).slice hx42
   replace H := (H.front (i := 0) rfl).turn (d := Ch.own 0 0 (Sl a43 xs41 c44) xs41) (fun _ => hR46) hb47; clear hR46 hb47
   refine sq (v := (Sl a43 xs41 c44)) (rv_slice_h Tryz.underlying33 ti62 hs45 rfl rfl) (sq_end ?_)
   intro σ48 hm49
   replace H := H.grow (hm49.mono fun _ h => h); clear hm49
   obtain ⟨v50, K51, H, hK52⟩ := H.mpOut x12.1 5 rfl hK10
   replace H := H.sel' [1, 2, 3, 4, 5, 6] rfl rfl
   replace H := H.sel' [0, 1, 2, 3, 4, 5] rfl rfl
   obtain ⟨K53, hK54, he55⟩ := hK52.put (Sl a43 xs41 c44) xs41
   refine st_exS (he55 (ty := _) H Tryz.underlying93 Tryz.underlying3 rfl rfl rfl) wn ?_
   rintro σ56 ⟨H, -⟩
   refine w_end (q_blk (q_then (rg (st (v := (I (w64 (s6.2 + 1)))) (rv_add (a := s6.2) (b := 1) rfl rfl) (sm (I (w64 (s6.2 + 1))) rfl (w_end (q_then ?_)))))))
   obtain rfl := sj h
   exact ⟨_, rfl, _, σ56, b8, K53, fr_join ⟨rfl, rfl, rfl, rfl, rfl, rfl, rfl, trivial⟩, rfl, H.sel' [4, 0] rfl rfl, hK54⟩
  ·replace h := bif_f hb11 h
   refine c_exit (q_then_x (q_then_x (q_blk_hit ?_)))
   obtain rfl := sj h
   obtain rfl := hres _ rfl
   exact ⟨rfl, _, σ7, b8, K9, fr_join ⟨rfl, trivial⟩, rfl, H.sel' [1] rfl rfl, hK10⟩
 ·clear hj
  have h := h'
  clear h' H
  rintro e a w ⟨rfl, ρ, σ57, b58, K59, rfl, rfl, H, hK60⟩
  refine q_then (c_seq (rg (sm (.map (some b58)) rfl (sa (.map (some b58)) rfl (w_end (q_then (c_ret ?_)))))))
  obtain rfl := sj h
  exact fin_ret (v := (.map (some b58))) (results_ok Tryz.results71 (res_tmp (v := (.map (some b58))) rfl res_nil) rfl) ⟨b58, K59, rfl, rfl, hK60⟩ (H.sel' [0] rfl rfl)

theorem c_impl_WalkTo {As : List (Int × (List Int) × Int)} {Bd : Int} {Br : Int} {Bs : Int} {Bt : List Int} {Au : Option Addr} {Av : Nat} {Bu : Option Addr} {Bv : Nat} {r : (List Int) × Bool} (h : M.impl_WalkTo As Bd Br Bs Bt = some r) :
    Cal2 Tryz.prog 32 [(Sl Au As Av), (I Bd), (I Br), (I Bs), (Sl Bu Bt Bv)] [Ch.ro 0 (Sl Au As Av) As, Ch.ro 0 (Sl Bu Bt Bv) Bt] (fun n0 v L => ∃ (az1 : Option Addr), ∃ (cz2 : Nat), v = (.tuple #[(Sl az1 r.1 cz2), (B r.2)]) ∧ L = [Ch.own n0 n0 (Sl az1 r.1 cz2) r.1]) := by
 refine cal2 (n := 76) Tryz.func32 rfl rfl rfl rfl ?_
 intro S0 σ0 n0 hn0 H
 unfold M.impl_WalkTo at h
 refine c_seq (rg (sa (.slice none 0 0) rfl (sa (B false) rfl (w_end (q_then (c_seq (c_seq ?_)))))))
 obtain ⟨o1, hj, h'⟩ := bind_some h
 clear h
 refine c_cut (fun e a w => e = .normal ∧ ∃ (ρ : Nat → Value) (σ : St), a = fr 76 (updL ρ [(0, (Sl Au As Av)), (1, (I Bd)), (2, (I Br)), (3, (I Bs)), (4, (Sl Bu Bt Bv)), (27, (B o1))]) ∧ w = σ.w ∧ Hp S0 σ0 σ [Ch.ro 0 (Sl Au As Av) As, Ch.ro 0 (Sl Bu Bt Bv) Bt]) ?_ ?_
 ·clear h'
  rename _ = some o1 => h
  refine rg (sm (Sl Au As Av) rfl (sm (I Bd) rfl (sm (I Br) rfl ?_)))
  revert h; refine br fun r2 hx3 h => ?_
  have hc4 := c_impl_validLinks (Au := Au) (Av := Av) hx3
  refine st_call (cx_call hc4 (ent_f hc4.fn rfl) hn0 (H.sel' [0, 0, 1] rfl rfl : Hp S0 σ0 _ ([_] ++ _))) wn ?_
  rintro _ σ5 ⟨_, ⟨rfl, rfl⟩, H, -⟩
  replace H : Hp _ _ _ [_, _] := H
  refine st (v := (B (!r2))) (rv_not rfl) (sm (B (!r2)) rfl ?_)
  rcases Bool.eq_false_or_eq_true (!r2) with hb6 | hb6
  ·replace h := bif_t hb6 h
   refine st_skip (congrArg some hb6) (st_skip (congrArg some hb6) (st_skip (congrArg some hb6) (st (v := (B true)) (rv_pick_t (congrArg B hb6) rfl) (w_end ?_))))
   obtain rfl := sj h
   exact ⟨rfl, _, σ5, fr_join ⟨rfl, rfl, rfl, rfl, rfl, rfl, trivial⟩, rfl, H.sel' [0, 1] rfl rfl⟩
  ·replace h := bif_f hb6 h
   refine st_g (v := (Sl Bu Bt Bv)) (congrArg some hb6) (rv_move rfl) ?_
   revert h; refine br fun r7 hx8 h => ?_
   have hc9 := c_impl_ValidVector (Ax := Bu) (Ay := Bv) hx8
   refine st_call (cx_call hc9 (ent_f hc9.fn rfl) hn0 (H.sel' [1, 0, 1] rfl rfl : Hp S0 σ0 _ ([_] ++ _))) (wanted_yes rfl (by exact (congrArg some hb6))) ?_
   rintro _ σ10 ⟨_, ⟨rfl, rfl⟩, H, -⟩
   replace H : Hp _ _ _ [_, _] := H
   refine st_g (v := (B (!r7))) (congrArg some hb6) (rv_not rfl) (st (v := (B (!r7))) (rv_pick_f (congrArg B hb6) rfl) (w_end ?_))
   obtain rfl := sj h
   exact ⟨rfl, _, σ10, fr_join ⟨rfl, rfl, rfl, rfl, rfl, rfl, trivial⟩, rfl, H.sel' [0, 1] rfl rfl⟩
 ·clear hj
  have h := h'
  clear h' H
  rintro e a w ⟨rfl, ρ, σ11, rfl, rfl, H⟩
  refine q_then ?_
  refine cd_cond o1 rfl (fun hb12 => ?_) (fun hb12 => ?_)
  ·replace h := bif_t hb12 h
   refine c_seq (rg (sa (.slice none 0 0) rfl (sa (B false) rfl (w_end (q_then (c_ret (q_then_r ?_)))))))
   replace H := H.nilOwn Int n0 n0
   obtain rfl := sj h
   exact fin_ret (v := (.tuple #[(.slice none 0 0), (B false)])) (results_ok Tryz.results32 (res_tmp (v := (.slice none 0 0)) rfl (res_tmp (v := (B false)) rfl res_nil)) rfl) ⟨none, 0, rfl, rfl⟩ (H.sel' [0] rfl rfl)
  ·replace h := bif_f hb12 h
   refine c_skip (q_then (c_seq (rg (sm (Sl Au As Av) rfl (sm (I Bs) rfl ?_)))))
   revert h; refine br fun r13 hx14 h => ?_
   have hc15 := c_impl_placeOf (Au := Au) (Av := Av) hx14
   refine st_call (cx_call hc15 (ent_f hc15.fn rfl) hn0 (H.sel' [0, 0, 1] rfl rfl : Hp S0 σ0 _ ([_] ++ _))) wn ?_
   rintro _ σ16 ⟨_, ⟨rfl, rfl⟩, H, -⟩
   replace H : Hp _ _ _ [_, _] := H
   refine sm (.tuple #[(I r13.1), (B r13.2)]) rfl (st (v := (I r13.1)) (rv_extract rfl rfl) (st (v := (B r13.2)) (rv_extract rfl rfl) (sa (I r13.1) rfl (sa (B r13.2) rfl (w_end (q_then (c_seq (c_seq (rg (sm (B r13.2) rfl (st (v := (B (!r13.2))) (rv_not rfl) ?_)))))))))))
   refine w_end (q_then ?_)
   refine cd_cond (!r13.2) rfl (fun hb17 => ?_) (fun hb17 => ?_)
   ·replace h := bif_t hb17 h
    refine c_seq (rg (sa (.slice none 0 0) rfl (sa (B false) rfl (w_end (q_then (c_ret (q_then_r ?_)))))))
    replace H := H.nilOwn Int n0 n0
    obtain rfl := sj h
    exact fin_ret (v := (.tuple #[(.slice none 0 0), (B false)])) (results_ok Tryz.results32 (res_tmp (v := (.slice none 0 0)) rfl (res_tmp (v := (B false)) rfl res_nil)) rfl) ⟨none, 0, rfl, rfl⟩ (H.sel' [0] rfl rfl)
   ·replace h := bif_f hb17 h
    refine c_skip (q_then (c_seq (rg (sm (Sl Au As Av) rfl (sm (I Bd) rfl (sm (I Br) rfl ?_))))))
    revert h; refine br fun r18 hx19 h => ?_
    have hc20 := c_impl_linkItems (Au := Au) (Av := Av) hx19
    refine st_call (cx_call hc20 (ent_f hc20.fn rfl) hn0 (H.sel' [0, 0, 1] rfl rfl : Hp S0 σ0 _ ([_] ++ _))) wn ?_
    rintro _ σ24 ⟨_, ⟨b21, K22, rfl, rfl, hK23⟩, H, -⟩
    replace H : Hp _ _ _ [_, _, _] := H
    refine sa (.map (some b21)) rfl (w_end (q_then (c_seq (rg (sm (Sl Au As Av) rfl (sm (I r13.1) rfl ?_))))))
    revert h; refine br fun x25 hx26 h => ?_
    obtain ⟨b28, o29, hi27, -⟩ := (H.ro 1 rfl).ix hx26
    refine st (v := (pt b28 o29)) (rv_ix Tryz.underlying33 ti62 rfl rfl hi27) ?_
    obtain ⟨_, ⟨_, _, rfl, rfl, ⟨_, _, rfl, ⟨_, rfl, hR34⟩, rfl⟩⟩, hl30, hc31⟩ := ((H.ro 1 rfl).at hx26 hi27).cells
    obtain ⟨a32, c33, rfl⟩ := hR34.isSl
    replace H := H.add (d := Ch.ro 0 (Sl a32 x25.2.1 c33) x25.2.1) hR34 (fun _ h => h)
    clear hR34
    refine st (v := (.agg #[(I x25.1), (Sl a32 x25.2.1 c33), (I x25.2.2)])) (rv_load Tryz.underlying62 rfl ti62 rfl hl30 hc31) (sm (I Bd) rfl (sm (Sl Bu Bt Bv) rfl ?_))
    revert h; refine br fun r35 hx36 h => ?_
    have hc37 := c_impl_hitOf (Ba := a32) (Bb := c33) (Bf := Bu) (Bg := Bv) hx36
    refine st_call (cx_call hc37 (ent_f hc37.fn rfl) hn0 (H.sel' [0, 3, 0, 1, 2, 3] rfl rfl : Hp S0 σ0 _ ([_, _] ++ _))) wn ?_
    rintro _ σ38 ⟨_, ⟨rfl, rfl⟩, H, -⟩
    replace H : Hp _ _ _ [_, _, _, _] := H
    refine sm (I Bs) rfl ?_
    refine st_ex (ex_buildSlice (el := n0) (xs := ([Bs] : List Int)) (ps := [(0, (I Bs))]) (cs := [(I Bs)]) H hn0 Tryz.underlying26 ti3 rfl rfl (by kernel_rfl) (.cons (c := [(I Bs)]) rfl (.nil)) rfl) wn ?_
    rintro _ σ40 ⟨b39, rfl, H, -⟩
    refine st_ex (ex_alloc (cs := [(I 0), (I 0)]) H hn0 ti67 rfl) wn ?_
    rintro _ σ42 ⟨b41, rfl, H, -⟩
    refine st_exS (ex_store_box (k := 0) (cs := [(I 0), (I 0)]) (vs := [(I r35.1), (I r35.2)]) (cs' := [(I r35.1), (I r35.2)]) H (i := 0) rfl ti67 rfl rfl rfl rfl rfl (Nat.le_of_ble_eq_true rfl) (by simp [plain]) rfl) wn ?_
    rintro σ43 ⟨H, -⟩
    refine sa (Sl (some ⟨b39, 0, none⟩) ([Bs] : List Int) 1) rfl (w_end (q_then ?_))
    obtain ⟨o44, hj, h'⟩ := bind_some h
    clear h
    refine c_cut (fun e a w => e = .ret ∧ ∃ (ρ : Nat → Value) (σ : St) (aj1 : Option Addr) (cj2 : Nat), a = fr 76 (updL ρ [(10, (Sl aj1 o44.1 cj2)), (11, (B o44.2))]) ∧ w = σ.w ∧ Hp S0 σ0 σ [Ch.own n0 n0 (Sl aj1 o44.1 cj2) o44.1]) ?_ ?_
    ·clear h'
     rename _ = some o44 => h
     refine c_blk ?_
     obtain ⟨σ46, hw47, H, -⟩ := H.mpPub 3 rfl hK23
     rw [← hw47]; clear hw47
     refine wp_loopM _ h (fun s45 a w => ∃ (ρ : Nat → Value) (σ : St) (aj1 : Option Addr) (cj2 : Nat), a = fr 76 (updL ρ [(1, (I Bd)), (4, (Sl Bu Bt Bv)), (14, (.map (some b21))), (15, (pt b41 0)), (16, (Sl aj1 s45.2 cj2))]) ∧ w = σ.w ∧ Hp S0 σ0 σ [Ch.bx n0 b41 0 [(I s45.1.1), (I s45.1.2)] [] [], Ch.ro 0 (Sl Bu Bt Bv) Bt, Ch.mr b21 r18, Ch.own n0 n0 (Sl aj1 s45.2 cj2) s45.2]) ⟨_, σ46, (some ⟨b39, 0, none⟩), 1, fr_join ⟨rfl, rfl, rfl, rfl, rfl, trivial⟩, rfl, H.sel' [1, 5, 0, 2] rfl rfl⟩ ?_
     clear h H
     rintro s45 a w o ⟨ρ, σ48, a49, c50, rfl, rfl, H⟩ h hres
     refine c_blk (c_seq (rg (sm (.map (some b21)) rfl (st (v := (pt b41 0)) (rv_fieldAddr (off := 0) (ft := 3) Tryz.underlying67 rfl ti3 rfl rfl) ?_))))
     have hc51 := H.cell (u := (I s45.1.1)) (o' := 0) 0 0 rfl rfl rfl
     refine st (v := (I s45.1.1)) (rv_load1 Tryz.underlying3 rfl rfl hc51) ?_
     obtain ⟨v55, hL54, hR56⟩ := mrGet (H.mr 2 rfl) s45.1.1
     obtain ⟨a52, c53, rfl⟩ := hR56.isSl
     replace H := H.add (d := Ch.ro 0 (Sl a52 (mget r18 s45.1.1) c53) (mget r18 s45.1.1)) hR56 (fun _ h => h)
     clear hR56
     refine st (v := (Sl a52 (mget r18 s45.1.1) c53)) (rv_lookup Tryz.underlying93 Tryz.underlying3 ti33 rfl rfl hL54) (sm (I Bd) rfl (sm (Sl Bu Bt Bv) rfl ?_))
     revert h; refine br fun r57 hx58 h => ?_
     have hc59 := c_impl_nearestAmong (Au := a52) (Av := c53) (Bf := Bu) (Bg := Bv) hx58
     refine st_call (cx_call hc59 (ent_f hc59.fn rfl) hn0 (H.sel' [0, 2, 0, 1, 2, 3, 4] rfl rfl : Hp S0 σ0 _ ([_, _] ++ _))) wn ?_
     rintro _ σ62 ⟨_, ⟨a60, c61, rfl, rfl⟩, H, -⟩
     replace H : Hp _ _ _ [_, _, _, _, _, _] := H
     refine sa (Sl a60 r57 c61) rfl (w_end (q_then (c_seq (c_seq ?_))))
     obtain ⟨o63, hj, h'⟩ := bind_some h
     clear h
     refine c_cut (fun e a w => e = .normal ∧ ∃ (ρ : Nat → Value) (σ : St), a = fr 76 (updL ρ [(1, (I Bd)), (4, (Sl Bu Bt Bv)), (14, (.map (some b21))), (15, (pt b41 0)), (16, (Sl a49 s45.2 c50)), (17, (Sl a60 r57 c61)), (66, (B o63))]) ∧ w = σ.w ∧ Hp S0 σ0 σ [Ch.ro 0 (Sl Bu Bt Bv) Bt, Ch.mr b21 r18, Ch.bx n0 b41 0 [(I s45.1.1), (I s45.1.2)] [] [], Ch.own n0 n0 (Sl a49 s45.2 c50) s45.2, Ch.own 0 n0 (Sl a60 r57 c61) r57]) ?_ ?_
     ·clear h'
      rename _ = some o63 => h
      refine rgP (σ := σ62) 8 (by kernel_rfl) (by kernel_rfl) (by kernel_rfl) ?_
      refine sq (v := (Sl a60 r57 c61)) (rv_move rfl) (sq (v := (I (r57.length : Int))) (rv_len Tryz.underlying29 rfl) (sq (v := (B ((r57.length : Int) == 0))) (rv_eql (a := (r57.length : Int)) (b := 0) rfl rfl) (sq (v := (B ((r57.length : Int) == 0))) (rv_move rfl) ?_)))
      rcases Bool.eq_false_or_eq_true ((r57.length : Int) == 0) with hb64 | hb64
      ·replace h := bif_t hb64 h
       refine sq_skip (congrArg some hb64) (sq_skip (congrArg some hb64) (sq_skip (congrArg some hb64) (sq_skip (congrArg some hb64) (sq_end ?_))))
       intro σ65 hm66
       replace H := H.grow (hm66.mono fun _ h => h); clear hm66
       refine st_skip (congrArg some hb64) (st_skip (congrArg some hb64) (st (v := (B true)) (rv_pick_t (congrArg B hb64) rfl) (w_end ?_)))
       obtain rfl := sj h
       exact ⟨rfl, _, σ65, fr_join ⟨rfl, rfl, rfl, rfl, rfl, rfl, rfl, trivial⟩, rfl, H.sel' [3, 4, 2, 5, 0] rfl rfl⟩
      ·replace h := bif_f hb64 h
       refine sq_g (v := (Sl a60 r57 c61)) (congrArg some hb64) (rv_move rfl) ?_
       revert h; refine br fun x67 hx68 h => ?_
       obtain ⟨b70, o71, hi69, -⟩ := (H.own 0 rfl).ix hx68
       refine sq_g (v := (pt b70 o71)) (congrArg some hb64) (rv_ix Tryz.underlying29 ti67 rfl rfl hi69) ?_
       obtain ⟨_, ⟨_, _, rfl, rfl, rfl⟩, hl72, hc73⟩ := ((H.own 0 rfl).at hx68 hi69).cells
       refine sq_g (v := (.agg #[(I x67.1), (I x67.2)])) (congrArg some hb64) (rv_load Tryz.underlying67 rfl ti67 rfl hl72 hc73) ?_
       have hc74 := H.cells 2 rfl
       refine sq_g (v := (.agg #[(I s45.1.1), (I s45.1.2)])) (congrArg some hb64) (rv_load (cs := [(I s45.1.1), (I s45.1.2)]) Tryz.underlying67 rfl ti67 rfl rfl hc74) (sq_end ?_)
       intro σ75 hm76
       replace H := H.grow (hm76.mono fun _ h => h); clear hm76
       revert h; refine br fun r77 hx78 h => ?_
       have hc79 := c_impl_compareHits hx78
       refine st_call (cx_call hc79 (ent_f hc79.fn rfl) hn0 (H.sel' [0, 1, 2, 3, 4, 5] rfl rfl : Hp S0 σ0 _ ([] ++ _))) (wanted_yes rfl (by exact (congrArg some hb64))) ?_
       rintro _ σ80 ⟨_, ⟨rfl, rfl⟩, H, -⟩
       replace H : Hp _ _ _ [_, _, _, _, _, _] := H
       refine st_g (v := (B (decide (0 ≤ r77)))) (congrArg some hb64) (rv_geq (a := r77) (b := 0) rfl rfl) (st (v := (B (decide (0 ≤ r77)))) (rv_pick_f (congrArg B hb64) rfl) (w_end ?_))
       obtain rfl := sj h
       exact ⟨rfl, _, σ80, fr_join ⟨rfl, rfl, rfl, rfl, rfl, rfl, rfl, trivial⟩, rfl, H.sel' [3, 4, 2, 5, 0] rfl rfl⟩
     ·clear hj
      have h := h'
      clear h' H
      rintro e a w ⟨rfl, ρ, σ81, rfl, rfl, H⟩
      refine q_then ?_
      refine cd_cond o63 rfl (fun hb82 => ?_) (fun hb82 => ?_)
      ·replace h := bif_t hb82 h
       refine c_seq (rg (sm (Sl a49 s45.2 c50) rfl (sa (Sl a49 s45.2 c50) rfl (sa (B true) rfl (w_end (q_then (c_ret (q_then_r (q_blk_r (q_then_r (q_blk_r ?_)))))))))))
       obtain rfl := sj h
       obtain rfl := hres _ rfl
       exact ⟨rfl, _, σ81, a49, c50, fr_join ⟨rfl, rfl, trivial⟩, rfl, H.sel' [3] rfl rfl⟩
      ·replace h := bif_f hb82 h
       refine c_skip (q_then (c_seq (rg (sm (Sl a60 r57 c61) rfl ?_))))
       revert h; refine br fun x83 hx84 h => ?_
       obtain ⟨b86, o87, hi85, -⟩ := (H.own 4 rfl).ix hx84
       refine st (v := (pt b86 o87)) (rv_ix Tryz.underlying29 ti67 rfl rfl hi85) ?_
       obtain ⟨_, ⟨_, _, rfl, rfl, rfl⟩, hl88, hc89⟩ := ((H.own 4 rfl).at hx84 hi85).cells
       refine st (v := (.agg #[(I x83.1), (I x83.2)])) (rv_load Tryz.underlying67 rfl ti67 rfl hl88 hc89) ?_
       refine st_exS (ex_store_box (k := 0) (cs := [(I s45.1.1), (I s45.1.2)]) (vs := [(I x83.1), (I x83.2)]) (cs' := [(I x83.1), (I x83.2)]) H (i := 2) rfl ti67 rfl rfl rfl rfl rfl (Nat.le_of_ble_eq_true rfl) (by simp [plain]) rfl) wn ?_
       rintro σ90 ⟨H, -⟩
       refine w_end (q_then (rg (sm (Sl a49 s45.2 c50) rfl (st (v := (pt b41 0)) (rv_fieldAddr (off := 0) (ft := 3) Tryz.underlying67 rfl ti3 rfl rfl) ?_))))
       have hc91 := H.cell (u := (I x83.1)) (o' := 0) 0 0 rfl rfl rfl
       refine st (v := (I x83.1)) (rv_load1 Tryz.underlying3 rfl rfl hc91) ?_
       refine st_ex (ex_buildSlice (el := n0) (xs := ([x83.1] : List Int)) (ps := [(0, (I x83.1))]) (cs := [(I x83.1)]) H hn0 Tryz.underlying26 ti3 rfl rfl (by kernel_rfl) (.cons (c := [(I x83.1)]) rfl (.nil)) rfl) wn ?_
       rintro _ σ93 ⟨b92, rfl, H, -⟩
       revert h; refine br fun xs94 hx95 h => ?_
       refine st_ex (ex_append H (i := 4) rfl Tryz.underlying26 Tryz.underlying26 ti3 rfl rfl (by decide) (H.own 0 rfl).rd hx95 hn0 rfl rfl) wn ?_
       rintro _ σ98 ⟨a96, c97, rfl, H, -⟩
       refine sa (Sl a96 xs94 c97) rfl (w_end (q_blk (q_then ?_)))
       obtain rfl := sj h
       exact ⟨_, rfl, _, σ98, a96, c97, fr_join ⟨rfl, rfl, rfl, rfl, rfl, trivial⟩, rfl, H.sel' [2, 3, 4, 0] rfl rfl⟩
    ·clear hj
     have h := h'
     clear h' H
     rintro e a w ⟨rfl, ρ, σ99, a100, c101, rfl, rfl, H⟩
     obtain rfl := sj h
     exact fin_ret (v := (.tuple #[(Sl a100 o44.1 c101), (B o44.2)])) (results_ok Tryz.results32 (res_tmp (v := (Sl a100 o44.1 c101)) rfl (res_tmp (v := (B o44.2)) rfl res_nil)) rfl) ⟨a100, c101, rfl, rfl⟩ (H.sel' [0] rfl rfl)

theorem c_laws_heldIntS {Aa : List Int} {Ao : Int} {Ad : Option Addr} {Ae : Nat} {r : Int} (h : M.laws_heldIntS Aa Ao = some r) :
    Cal2 Tryz.prog 33 [(Sl Ad Aa Ae), (I Ao)] [Ch.ro 0 (Sl Ad Aa Ae) Aa] (fun n0 v L => v = (I r) ∧ L = []) := by
 refine cal2 (n := 21) Tryz.func33 rfl rfl rfl rfl ?_
 intro S0 σ0 n0 hn0 H
 unfold M.laws_heldIntS at h
 refine c_seq (rg (sa (I 0) rfl (w_end (q_then (c_seq (c_seq (rg (sa (I 0) rfl (w_end (q_then ?_))))))))))
 obtain ⟨o1, hj, h'⟩ := bind_some h
 clear h
 refine c_cut (fun e a w => (∃ t, o1 = (.inl t) ∧ e = .normal ∧ ∃ (ρ : Nat → Value) (σ : St), a = fr 21 (updL ρ [(1, (I t))]) ∧ w = σ.w ∧ Hp S0 σ0 σ []) ∨ (∃ t, o1 = (.inr t) ∧ e = .ret ∧ ∃ (ρ : Nat → Value) (σ : St), a = fr 21 (updL ρ [(4, (I t))]) ∧ w = σ.w ∧ Hp S0 σ0 σ [])) ?_ ?_
 ·clear h'
  rename _ = some o1 => h
  refine c_blk (wp_loopM _ h (fun s2 a w => ∃ (ρ : Nat → Value) (σ : St), a = fr 21 (updL ρ [(0, (Sl Ad Aa Ae)), (1, (I s2.1)), (5, (I s2.2))]) ∧ w = σ.w ∧ Hp S0 σ0 σ [Ch.ro 0 (Sl Ad Aa Ae) Aa]) ⟨_, σ0, fr_join ⟨rfl, rfl, rfl, trivial⟩, rfl, H.sel' [0] rfl rfl⟩ ?_)
  clear h H
  rintro s2 a w o ⟨ρ, σ3, rfl, rfl, H⟩ h hres
  refine c_seq (c_seq (rg (sm (I s2.2) rfl (sm (Sl Ad Aa Ae) rfl (st (v := (I (Aa.length : Int))) (rv_len Tryz.underlying26 rfl) (st (v := (B (decide (s2.2 < (Aa.length : Int))))) (rv_lss (a := s2.2) (b := (Aa.length : Int)) rfl rfl) (w_end (q_then ?_))))))))
  refine cd_cond (decide (s2.2 < (Aa.length : Int))) rfl (fun hb4 => ?_) (fun hb4 => ?_)
  ·replace h := bif_t hb4 h
   refine c_skip (q_then (c_seq (c_blk (c_seq (c_seq (rg (sm (Sl Ad Aa Ae) rfl (sm (I s2.2) rfl ?_))))))))
   revert h; refine br fun x5 hx6 h => ?_
   obtain ⟨b8, o9, hi7, -⟩ := (H.ro 0 rfl).ix hx6
   refine st (v := (pt b8 o9)) (rv_ix Tryz.underlying26 ti3 rfl rfl hi7) ?_
   have hc10 := ((H.ro 0 rfl).at hx6 hi7).int
   refine st (v := (I x5)) (rv_load1 Tryz.underlying3 rfl rfl hc10) (sm (I s2.1) rfl (st (v := (B (x5 != s2.1))) (rv_neq (a := x5) (b := s2.1) rfl rfl) (w_end (q_then ?_))))
   refine cd_cond (x5 != s2.1) rfl (fun hb11 => ?_) (fun hb11 => ?_)
   ·replace h := bif_t hb11 h
    refine c_seq (rg (sa (I (-1)) rfl (w_end (q_then (c_ret (q_then_r (q_blk_r (q_then_r (q_then_r (q_blk_r ?_))))))))))
    obtain rfl := sj h
    obtain rfl := hres _ rfl
    exact .inr (⟨_, rfl, rfl, _, σ3, fr_join ⟨rfl, trivial⟩, rfl, H.sel' [] rfl rfl⟩)
   ·replace h := bif_f hb11 h
    refine c_skip (q_then (rg (sm (I s2.1) rfl (st (v := (I (w64 (s2.1 + 1)))) (rv_add (a := s2.1) (b := 1) rfl rfl) (sa (I (w64 (s2.1 + 1))) rfl (w_end (q_blk (q_then (rg (sm (I s2.2) rfl (st (v := (I (w64 (s2.2 + 1)))) (rv_add (a := s2.2) (b := 1) rfl rfl) ?_)))))))))))
    refine sa (I (w64 (s2.2 + 1))) rfl (w_end (q_then ?_))
    obtain rfl := sj h
    exact ⟨_, rfl, _, σ3, fr_join ⟨rfl, rfl, rfl, trivial⟩, rfl, H.sel' [0] rfl rfl⟩
  ·replace h := bif_f hb4 h
   refine c_exit (q_then_x (q_then_x (q_blk_hit ?_)))
   obtain rfl := sj h
   obtain rfl := hres _ rfl
   exact .inl ⟨_, rfl, rfl, _, σ3, fr_join ⟨rfl, trivial⟩, rfl, H.sel' [] rfl rfl⟩
 ·clear hj
  have h := h'
  clear h' H
  rintro e a w (⟨t12, rfl, rfl, ρ, σ13, rfl, rfl, H⟩ | ⟨t14, rfl, rfl, ρ, σ15, rfl, rfl, H⟩)
  ·replace h := selim_l h
   refine q_then (c_seq (rg (sm (I t12) rfl (sa (I t12) rfl (w_end (q_then (c_ret ?_)))))))
   obtain rfl := sj h
   exact fin_ret (v := (I t12)) (results_ok Tryz.results33 (res_tmp (v := (I t12)) rfl res_nil) rfl) ⟨rfl, rfl⟩ (H.sel' [] rfl rfl)
  ·replace h := selim_r h
   refine q_then_r ?_
   obtain rfl := sj h
   exact fin_ret (v := (I t14)) (results_ok Tryz.results33 (res_tmp (v := (I t14)) rfl res_nil) rfl) ⟨rfl, rfl⟩ (H.sel' [] rfl rfl)

theorem c_laws_FnExactWalkTo {Ha : List (Int × (List Int) × Int)} {Hc : Int} {Hd : Int} {He : Int} {Hf : List Int} {Hg : Option Addr} {Hi : Nat} {Hj : Option Addr} {Hk : Nat} {r : Bool} (h : M.laws_FnExactWalkTo Ha Hc Hd He Hf = some r) :
    Cal2 Tryz.prog 6 [(Sl Hg Ha Hi), (I Hc), (I Hd), (I He), (Sl Hj Hf Hk)] [Ch.ro 0 (Sl Hg Ha Hi) Ha, Ch.ro 0 (Sl Hj Hf Hk) Hf] (fun n0 v L => v = (B r) ∧ L = []) := by
 refine cal2 (n := 132) Tryz.func6 rfl rfl rfl rfl ?_
 intro S0 σ0 n0 hn0 H
 unfold M.laws_FnExactWalkTo at h
 refine c_seq (rg (sa (B false) rfl (w_end (q_then (c_seq (c_seq (rg (sm (Sl Hj Hf Hk) rfl (st (v := (I (Hf.length : Int))) (rv_len Tryz.underlying26 rfl) (st (v := (B (decide (1048576 < (Hf.length : Int))))) (rv_gtr (a := (Hf.length : Int)) (b := 1048576) rfl rfl) (w_end ?_)))))))))))
 refine q_then ?_
 refine cd_cond (decide (1048576 < (Hf.length : Int))) rfl (fun hb1 => ?_) (fun hb1 => ?_)
 ·replace h := bif_t hb1 h
  refine c_seq (rg (sa (B true) rfl (w_end (q_then (c_ret (q_then_r ?_))))))
  obtain rfl := sj h
  exact fin_ret (v := (B true)) (results_ok Tryz.results6 (res_tmp (v := (B true)) rfl res_nil) rfl) ⟨rfl, rfl⟩ (H.sel' [] rfl rfl)
 ·replace h := bif_f hb1 h
  refine c_skip (q_then (c_seq (rg (sa (I 1048576) rfl (w_end (q_then (c_seq (rg (sm (Sl Hg Ha Hi) rfl (sm (I 1048576) rfl ?_))))))))))
  revert h; refine br fun r2 hx3 h => ?_
  have hc4 := c_laws_szItemS (Ad := Hg) (Ae := Hi) hx3
  refine st_call (cx_call hc4 (ent_f hc4.fn rfl) hn0 (H.sel' [0, 0, 1] rfl rfl : Hp S0 σ0 _ ([_] ++ _))) wn ?_
  rintro _ σ5 ⟨_, ⟨rfl, rfl⟩, H, -⟩
  replace H : Hp _ _ _ [_, _] := H
  refine sa (I r2) rfl (w_end (q_then (c_seq (c_seq (rg (sm (I r2) rfl (st (v := (B (decide (r2 < 0)))) (rv_lss (a := r2) (b := 0) rfl rfl) (w_end (q_then ?_)))))))))
  refine cd_cond (decide (r2 < 0)) rfl (fun hb6 => ?_) (fun hb6 => ?_)
  ·replace h := bif_t hb6 h
   refine c_seq (rg (sa (B true) rfl (w_end (q_then (c_ret (q_then_r ?_))))))
   obtain rfl := sj h
   exact fin_ret (v := (B true)) (results_ok Tryz.results6 (res_tmp (v := (B true)) rfl res_nil) rfl) ⟨rfl, rfl⟩ (H.sel' [] rfl rfl)
  ·replace h := bif_f hb6 h
   refine c_skip (q_then (c_seq (rg (sm (Sl Hg Ha Hi) rfl ?_))))
   revert h; refine br fun r7 hx8 h => ?_
   have hc9 := c_laws_toItemS (Ad := Hg) (Ae := Hi) hx8
   refine st_call (cx_call hc9 (ent_f hc9.fn rfl) hn0 (H.sel' [0, 0, 1] rfl rfl : Hp S0 σ0 _ ([_] ++ _))) wn ?_
   rintro _ σ14 ⟨_, ⟨a10, c11, K12, rfl, rfl, hK13⟩, H, -⟩
   replace H : Hp _ _ _ [_, _, _] := H
   refine sm (I Hc) rfl (sm (I Hd) rfl (sm (I He) rfl (sm (Sl Hj Hf Hk) rfl ?_)))
   revert h; refine br fun r15 hx16 h => ?_
   have hc17 := c_laws_toIntS (Ad := Hj) (Ae := Hk) hx16
   refine st_call (cx_call hc17 (ent_f hc17.fn rfl) hn0 (H.sel' [2, 0, 1, 2] rfl rfl : Hp S0 σ0 _ ([_] ++ _))) wn ?_
   rintro _ σ21 ⟨_, ⟨a18, c19, rfl, rfl, ht20⟩, H, -⟩
   replace H : Hp _ _ _ [_, _, _, _] := H
   obtain ⟨σ22, hw23, H, -⟩ := H.pub 0 rfl (Nat.le_refl _)
   rw [← hw23]; clear hw23
   replace H := H.roLow 0 0 rfl (Nat.zero_le _)
   revert h; refine br fun r24 hx25 h => ?_
   have hc26 := c_spec_WalkTo (Au := a10) (Av := c11) (Bu := a18) (Bv := c19) hx25
   have hle := Nat.le_trans hn0 H.size
   refine st_call (cx_lend (Loan.lendB hK13.lends (Loan.same Loan.nil)) hc26 (ent_f hc26.fn rfl) (show Hp S0 σ0 _ ([Ch.big K12] ++ ([Ch.ro 0 (Sl a18 r15 c19) r15] ++ [Ch.ro 0 (Sl a18 r15 c19) r15, Ch.ro n0 (Sl a18 r15 c19) r15, Ch.ro 0 (Sl Hg Ha Hi) Ha, Ch.ro 0 (Sl Hj Hf Hk) Hf])) from (H.sel' [2, 0, 0, 1, 3, 4] rfl rfl)) (by rintro _ _ _ ⟨_, _, rfl, rfl⟩; exact ⟨Ab.ownSc, trivial⟩)) wn ?_
   rintro _ σ29 ⟨_, ⟨a27, c28, rfl, rfl⟩, H, -, -⟩
   replace H : Hp _ _ _ [_, _, _, _, _, _] := H
   replace H := H.ownLow 0 n0 n0 rfl hle hle
   clear hle
   replace H : Hp _ _ _ [_, _, _, _, _, _] := H
   refine sm (.tuple #[(Sl a27 r24.1 c28), (B r24.2)]) rfl (st (v := (Sl a27 r24.1 c28)) (rv_extract rfl rfl) (st (v := (B r24.2)) (rv_extract rfl rfl) (sa (Sl a27 r24.1 c28) rfl (sa (B r24.2) rfl (w_end (q_then (c_seq (rg (sm (Sl Hg Ha Hi) rfl ?_)))))))))
   revert h; refine br fun r30 hx31 h => ?_
   have hc32 := c_laws_toItemS (Ad := Hg) (Ae := Hi) hx31
   refine st_call (cx_call hc32 (ent_f hc32.fn rfl) hn0 (H.sel' [4, 0, 1, 2, 3, 4, 5] rfl rfl : Hp S0 σ0 _ ([_] ++ _))) wn ?_
   rintro _ σ37 ⟨_, ⟨a33, c34, K35, rfl, rfl, hK36⟩, H, -⟩
   replace H : Hp _ _ _ [_, _, _, _, _, _, _] := H
   refine sa (Sl a33 r30 c34) rfl (w_end (q_then (c_seq (rg (sm (Sl Hj Hf Hk) rfl ?_)))))
   revert h; refine br fun r38 hx39 h => ?_
   have hc40 := c_laws_toIntS (Ad := Hj) (Ae := Hk) hx39
   refine st_call (cx_call hc40 (ent_f hc40.fn rfl) hn0 (H.sel' [6, 0, 1, 2, 3, 4, 5, 6] rfl rfl : Hp S0 σ0 _ ([_] ++ _))) wn ?_
   rintro _ σ44 ⟨_, ⟨a41, c42, rfl, rfl, ht43⟩, H, -⟩
   replace H : Hp _ _ _ [_, _, _, _, _, _, _, _] := H
   replace H : Hp S0 σ0 σ44 [Ch.own n0 n0 (Sl a41 r38 c42) r38, Ch.big K35, Ch.own n0 n0 (Sl a27 r24.1 c28) r24.1, Ch.ro 0 (Sl Hg Ha Hi) Ha, Ch.ro 0 (Sl Hj Hf Hk) Hf] := H.sel' [0, 1, 2, 6, 7] rfl rfl
   refine sa (Sl a41 r38 c42) rfl (w_end (q_then (c_seq (rg (sm (Sl a33 r30 c34) rfl (sm (I Hc) rfl (sm (I Hd) rfl (sm (I He) rfl (sm (Sl a41 r38 c42) rfl ?_)))))))))
   revert h; refine br fun r45 hx46 h => ?_
   have hc47 := c_impl_WalkTo (Au := a33) (Av := c34) (Bu := a41) (Bv := c42) hx46
   have hle := Nat.le_trans hn0 H.size
   refine st_call (cx_lend (Loan.lendB hK36.lends (Loan.lend Loan.nil)) hc47 (ent_f hc47.fn rfl) (show Hp S0 σ0 _ ([Ch.big K35, Ch.own n0 n0 (Sl a41 r38 c42) r38] ++ ([] ++ [Ch.own n0 n0 (Sl a27 r24.1 c28) r24.1, Ch.ro 0 (Sl Hg Ha Hi) Ha, Ch.ro 0 (Sl Hj Hf Hk) Hf])) from (H.sel' [1, 0, 2, 3, 4] rfl rfl)) (by rintro _ _ _ ⟨_, _, rfl, rfl⟩; exact ⟨Ab.ownSc, trivial⟩)) wn ?_
   rintro _ σ50 ⟨_, ⟨a48, c49, rfl, rfl⟩, H, -, -⟩
   replace H : Hp _ _ _ [_, _, _, _, _, _] := H
   replace H := H.ownLow 0 n0 n0 rfl hle hle
   clear hle
   replace H : Hp _ _ _ [_, _, _, _, _, _] := H
   refine sm (.tuple #[(Sl a48 r45.1 c49), (B r45.2)]) rfl (st (v := (Sl a48 r45.1 c49)) (rv_extract rfl rfl) (st (v := (B r45.2)) (rv_extract rfl rfl) (sa (Sl a48 r45.1 c49) rfl (sa (B r45.2) rfl (w_end (q_then (c_seq (c_seq ?_))))))))
   obtain ⟨o51, hj, h'⟩ := bind_some h
   clear h
   refine c_cut (fun e a w => e = .normal ∧ ∃ (ρ : Nat → Value) (σ : St), a = fr 132 (updL ρ [(0, (Sl Hg Ha Hi)), (1, (I Hc)), (2, (I Hd)), (3, (I He)), (4, (Sl Hj Hf Hk)), (12, (Sl a27 r24.1 c28)), (13, (B r24.2)), (14, (Sl a33 r30 c34)), (15, (Sl a41 r38 c42)), (16, (Sl a48 r45.1 c49)), (17, (B r45.2)), (63, (B o51))]) ∧ w = σ.w ∧ Hp S0 σ0 σ [Ch.ro 0 (Sl Hg Ha Hi) Ha, Ch.ro 0 (Sl Hj Hf Hk) Hf, Ch.own n0 n0 (Sl a27 r24.1 c28) r24.1, Ch.big K35, Ch.own n0 n0 (Sl a41 r38 c42) r38, Ch.own n0 n0 (Sl a48 r45.1 c49) r45.1]) ?_ ?_
   ·clear h'
    rename _ = some o51 => h
    refine rg (sm (Sl a48 r45.1 c49) rfl (sm (Sl a27 r24.1 c28) rfl ?_))
    revert h; refine br fun r52 hx53 h => ?_
    have hc54 := c_laws_eqIntS (Ad := a48) (Ae := c49) (Ai := a27) (Aj := c28) hx53
    have hle := Nat.le_trans hn0 H.size
    refine st_call (cx_lend (Loan.lend (Loan.lend Loan.nil)) hc54 (ent_f hc54.fn rfl) (show Hp S0 σ0 _ ([Ch.own n0 n0 (Sl a48 r45.1 c49) r45.1, Ch.own n0 n0 (Sl a27 r24.1 c28) r24.1] ++ ([] ++ [Ch.big K35, Ch.own n0 n0 (Sl a41 r38 c42) r38, Ch.ro 0 (Sl Hg Ha Hi) Ha, Ch.ro 0 (Sl Hj Hf Hk) Hf])) from (H.sel' [0, 3, 1, 2, 4, 5] rfl rfl)) (by rintro _ _ _ ⟨rfl, rfl⟩; exact trivial)) wn ?_
    rintro _ σ55 ⟨_, ⟨rfl, rfl⟩, H, -, -⟩
    replace H : Hp _ _ _ [_, _, _, _, _, _] := H
    clear hle
    replace H : Hp _ _ _ [_, _, _, _, _, _] := H
    refine st (v := (B (!r52))) (rv_not rfl) (sm (B (!r52)) rfl ?_)
    rcases Bool.eq_false_or_eq_true (!r52) with hb56 | hb56
    ·replace h := bif_t hb56 h
     refine st_skip (congrArg some hb56) (st_skip (congrArg some hb56) (st_skip (congrArg some hb56) (st (v := (B true)) (rv_pick_t (congrArg B hb56) rfl) (w_end ?_))))
     obtain rfl := sj h
     exact ⟨rfl, _, σ55, fr_join ⟨rfl, rfl, rfl, rfl, rfl, rfl, rfl, rfl, rfl, rfl, rfl, rfl, trivial⟩, rfl, H.sel' [4, 5, 1, 2, 3, 0] rfl rfl⟩
    ·replace h := bif_f hb56 h
     refine st_g (v := (B r45.2)) (congrArg some hb56) (rv_move rfl) (st_g (v := (B r24.2)) (congrArg some hb56) (rv_move rfl) (st_g (v := (B (r45.2 != r24.2))) (congrArg some hb56) (rv_bneq Tryz.underlying4 rfl rfl) (st (v := (B (r45.2 != r24.2))) (rv_pick_f (congrArg B hb56) rfl) (w_end ?_))))
     obtain rfl := sj h
     exact ⟨rfl, _, σ55, fr_join ⟨rfl, rfl, rfl, rfl, rfl, rfl, rfl, rfl, rfl, rfl, rfl, rfl, trivial⟩, rfl, H.sel' [4, 5, 1, 2, 3, 0] rfl rfl⟩
   ·clear hj
    have h := h'
    clear h' H
    rintro e a w ⟨rfl, ρ, σ57, rfl, rfl, H⟩
    refine q_then ?_
    refine cd_cond o51 rfl (fun hb58 => ?_) (fun hb58 => ?_)
    ·replace h := bif_t hb58 h
     refine c_seq (rg (sa (B false) rfl (w_end (q_then (c_ret (q_then_r ?_))))))
     obtain rfl := sj h
     exact fin_ret (v := (B false)) (results_ok Tryz.results6 (res_tmp (v := (B false)) rfl res_nil) rfl) ⟨rfl, rfl⟩ (H.sel' [] rfl rfl)
    ·replace h := bif_f hb58 h
     refine c_skip (q_then (c_seq (c_seq (rg (sm (Sl a33 r30 c34) rfl (sm (Sl Hg Ha Hi) rfl ?_))))))
     revert h; refine br fun r59 hx60 h => ?_
     have hc61 := c_laws_toItemS (Ad := Hg) (Ae := Hi) hx60
     refine st_call (cx_call hc61 (ent_f hc61.fn rfl) hn0 (H.sel' [0, 0, 1, 2, 3, 4, 5] rfl rfl : Hp S0 σ0 _ ([_] ++ _))) wn ?_
     rintro _ σ66 ⟨_, ⟨a62, c63, K64, rfl, rfl, hK65⟩, H, -⟩
     replace H : Hp _ _ _ [_, _, _, _, _, _, _] := H
     revert h; refine br fun r67 hx68 h => ?_
     have hc69 := c_laws_eqItemS (Ad := a33) (Ae := c34) (Ai := a62) (Aj := c63) hx68
     have hle := Nat.le_trans hn0 H.size
     refine st_call (cx_lend (Loan.lendB hK36.lends (Loan.lendB hK65.lends Loan.nil)) hc69 (ent_f hc69.fn rfl) (show Hp S0 σ0 _ ([Ch.big K35, Ch.big K64] ++ ([] ++ [Ch.ro 0 (Sl Hg Ha Hi) Ha, Ch.ro 0 (Sl Hj Hf Hk) Hf, Ch.own n0 n0 (Sl a27 r24.1 c28) r24.1, Ch.own n0 n0 (Sl a41 r38 c42) r38, Ch.own n0 n0 (Sl a48 r45.1 c49) r45.1])) from (H.sel' [4, 0, 1, 2, 3, 5, 6] rfl rfl)) (by rintro _ _ _ ⟨rfl, rfl⟩; exact trivial)) wn ?_
     rintro _ σ70 ⟨_, ⟨rfl, rfl⟩, H, -, -⟩
     replace H : Hp _ _ _ [_, _, _, _, _, _, _] := H
     clear hle
     replace H : Hp _ _ _ [_, _, _, _, _, _, _] := H
     refine st (v := (B (!r67))) (rv_not rfl) (w_end (q_then ?_))
     refine cd_cond (!r67) rfl (fun hb71 => ?_) (fun hb71 => ?_)
     ·replace h := bif_t hb71 h
      refine c_seq (rg (sa (B false) rfl (w_end (q_then (c_ret (q_then_r ?_))))))
      obtain rfl := sj h
      exact fin_ret (v := (B false)) (results_ok Tryz.results6 (res_tmp (v := (B false)) rfl res_nil) rfl) ⟨rfl, rfl⟩ (H.sel' [] rfl rfl)
     ·replace h := bif_f hb71 h
      refine c_skip (q_then (c_seq (c_seq (rg (sm (Sl a41 r38 c42) rfl (sm (Sl Hj Hf Hk) rfl ?_))))))
      revert h; refine br fun r72 hx73 h => ?_
      have hc74 := c_laws_toIntS (Ad := Hj) (Ae := Hk) hx73
      refine st_call (cx_call hc74 (ent_f hc74.fn rfl) hn0 (H.sel' [3, 0, 1, 2, 3, 4, 5, 6] rfl rfl : Hp S0 σ0 _ ([_] ++ _))) wn ?_
      rintro _ σ78 ⟨_, ⟨a75, c76, rfl, rfl, ht77⟩, H, -⟩
      replace H : Hp _ _ _ [_, _, _, _, _, _, _, _] := H
      replace H : Hp S0 σ0 σ78 [Ch.own n0 n0 (Sl a75 r72 c76) r72, Ch.big K35, Ch.ro 0 (Sl Hg Ha Hi) Ha, Ch.ro 0 (Sl Hj Hf Hk) Hf, Ch.own n0 n0 (Sl a27 r24.1 c28) r24.1, Ch.own n0 n0 (Sl a41 r38 c42) r38, Ch.own n0 n0 (Sl a48 r45.1 c49) r45.1] := H.sel' [0, 1, 3, 4, 5, 6, 7] rfl rfl
      obtain ⟨σ79, hw80, H, -⟩ := H.pub 0 rfl (Nat.le_refl _)
      rw [← hw80]; clear hw80
      replace H := H.roLow 0 0 rfl (Nat.zero_le _)
      revert h; refine br fun r81 hx82 h => ?_
      have hc83 := c_laws_eqIntS (Ad := a41) (Ae := c42) (Ai := a75) (Aj := c76) hx82
      have hle := Nat.le_trans hn0 H.size
      refine st_call (cx_lend (Loan.lend (Loan.same Loan.nil)) hc83 (ent_f hc83.fn rfl) (show Hp S0 σ0 _ ([Ch.own n0 n0 (Sl a41 r38 c42) r38] ++ ([Ch.ro 0 (Sl a75 r72 c76) r72] ++ [Ch.ro 0 (Sl a75 r72 c76) r72, Ch.ro n0 (Sl a75 r72 c76) r72, Ch.big K35, Ch.ro 0 (Sl Hg Ha Hi) Ha, Ch.ro 0 (Sl Hj Hf Hk) Hf, Ch.own n0 n0 (Sl a27 r24.1 c28) r24.1, Ch.own n0 n0 (Sl a48 r45.1 c49) r45.1])) from (H.sel' [6, 0, 0, 1, 2, 3, 4, 5, 7] rfl rfl)) (by rintro _ _ _ ⟨rfl, rfl⟩; exact trivial)) wn ?_
      rintro _ σ84 ⟨_, ⟨rfl, rfl⟩, H, -, -⟩
      replace H : Hp _ _ _ [_, _, _, _, _, _, _, _] := H
      clear hle
      replace H : Hp _ _ _ [_, _, _, _, _, _, _, _] := H
      replace H : Hp S0 σ0 σ84 [Ch.own n0 n0 (Sl a41 r38 c42) r38, Ch.big K35, Ch.ro 0 (Sl Hg Ha Hi) Ha, Ch.ro 0 (Sl Hj Hf Hk) Hf, Ch.own n0 n0 (Sl a27 r24.1 c28) r24.1, Ch.own n0 n0 (Sl a48 r45.1 c49) r45.1] := H.sel' [0, 3, 4, 5, 6, 7] rfl rfl
      refine st (v := (B (!r81))) (rv_not rfl) (w_end (q_then ?_))
      refine cd_cond (!r81) rfl (fun hb85 => ?_) (fun hb85 => ?_)
      ·replace h := bif_t hb85 h
       refine c_seq (rg (sa (B false) rfl (w_end (q_then (c_ret (q_then_r ?_))))))
       obtain rfl := sj h
       exact fin_ret (v := (B false)) (results_ok Tryz.results6 (res_tmp (v := (B false)) rfl res_nil) rfl) ⟨rfl, rfl⟩ (H.sel' [] rfl rfl)
      ·replace h := bif_f hb85 h
       refine c_skip (q_then (c_seq (rg (sa (I 1) rfl (w_end (q_then (c_seq (rg (sm (Sl a33 r30 c34) rfl (sm (I 1) rfl ?_))))))))))
       revert h; refine br fun r86 hx87 h => ?_
       have hc88 := c_laws_markItemS (Ad := a33) (Ae := c34) (hK := hK36) hx87
       refine st_call (cx_call hc88 (ent_f hc88.fn rfl) hn0 (H.sel' [1, 0, 2, 3, 4, 5] rfl rfl : Hp S0 σ0 _ ([_] ++ _))) wn ?_
       rintro _ σ89 ⟨_, ⟨rfl, rfl⟩, H, -⟩
       replace H : Hp _ _ _ [_, _, _, _, _] := H
       refine sa (I r86) rfl (w_end (q_then (c_seq (rg (sm (Sl a41 r38 c42) rfl (sm (I r86) rfl ?_))))))
       replace H := H.ownLow 0 0 0 rfl (Nat.zero_le _) (Nat.zero_le _)
       revert h; refine br fun r90 hx91 h => ?_
       have hc92 := c_laws_markIntS (Ad := a41) (Ae := c42) hx91
       refine st_call (cx_call hc92 (ent_f hc92.fn rfl) hn0 (H.sel' [0, 1, 2, 3, 4] rfl rfl : Hp S0 σ0 _ ([_] ++ _))) wn ?_
       rintro _ σ94 ⟨_, ⟨rfl, rfl, hn93⟩, H, -⟩
       replace H : Hp _ _ _ [_, _, _, _, _] := H
       have hsl : (Sl a41 r38 c42) = (Sl a41 r90.2 c42) := sl_len hn93.symm
       try rw [hsl]
       try rw [hsl] at H
       clear hsl
       refine sa (I r90.1) rfl (w_end (q_then (c_seq (c_seq ?_))))
       obtain ⟨o95, hj, h'⟩ := bind_some h
       clear h
       refine c_cut (fun e a w => e = .normal ∧ ∃ (ρ : Nat → Value) (σ : St), a = fr 132 (updL ρ [(0, (Sl Hg Ha Hi)), (1, (I Hc)), (2, (I Hd)), (3, (I He)), (4, (Sl Hj Hf Hk)), (12, (Sl a27 r24.1 c28)), (13, (B r24.2)), (16, (Sl a48 r45.1 c49)), (92, (B o95))]) ∧ w = σ.w ∧ Hp S0 σ0 σ [Ch.ro 0 (Sl Hg Ha Hi) Ha, Ch.ro 0 (Sl Hj Hf Hk) Hf, Ch.own n0 n0 (Sl a27 r24.1 c28) r24.1, Ch.own n0 n0 (Sl a48 r45.1 c49) r45.1]) ?_ ?_
       ·clear h'
        rename _ = some o95 => h
        refine rg (sm (I r90.1) rfl (st (v := (B (decide (r90.1 < 0)))) (rv_lss (a := r90.1) (b := 0) rfl rfl) (sm (B (decide (r90.1 < 0))) rfl ?_)))
        rcases Bool.eq_false_or_eq_true (decide (r90.1 < 0)) with hb96 | hb96
        ·replace h := bif_t hb96 h
         refine st_skip (congrArg some hb96) (st_skip (congrArg some hb96) (st_skip (congrArg some hb96) (st_skip (congrArg some hb96) (st (v := (B true)) (rv_pick_t (congrArg B hb96) rfl) (sm (B true) rfl (st_skip rfl (st_skip rfl (st_skip rfl (st (v := (B true)) (rv_pick_t rfl rfl) (w_end ?_))))))))))
         obtain rfl := sj h
         exact ⟨rfl, _, σ94, fr_join ⟨rfl, rfl, rfl, rfl, rfl, rfl, rfl, rfl, rfl, trivial⟩, rfl, H.sel' [1, 2, 3, 4] rfl rfl⟩
        ·replace h := bif_f hb96 h
         refine st_g (v := (Sl a48 r45.1 c49)) (congrArg some hb96) (rv_move rfl) (st_g (v := (Sl a27 r24.1 c28)) (congrArg some hb96) (rv_move rfl) ?_)
         revert h; refine br fun r97 hx98 h => ?_
         have hc99 := c_laws_eqIntS (Ad := a48) (Ae := c49) (Ai := a27) (Aj := c28) hx98
         have hle := Nat.le_trans hn0 H.size
         refine st_call (cx_lend (Loan.lend (Loan.lend Loan.nil)) hc99 (ent_f hc99.fn rfl) (show Hp S0 σ0 _ ([Ch.own n0 n0 (Sl a48 r45.1 c49) r45.1, Ch.own n0 n0 (Sl a27 r24.1 c28) r24.1] ++ ([] ++ [Ch.own 0 0 (Sl a41 r90.2 c42) r90.2, Ch.ro 0 (Sl Hg Ha Hi) Ha, Ch.ro 0 (Sl Hj Hf Hk) Hf])) from (H.sel' [4, 3, 0, 1, 2] rfl rfl)) (by rintro _ _ _ ⟨rfl, rfl⟩; exact trivial)) (wanted_yes rfl (by exact (congrArg some hb96))) ?_
         rintro _ σ100 ⟨_, ⟨rfl, rfl⟩, H, -, -⟩
         replace H : Hp _ _ _ [_, _, _, _, _] := H
         clear hle
         replace H : Hp _ _ _ [_, _, _, _, _] := H
         refine st_g (v := (B (!r97))) (congrArg some hb96) (rv_not rfl) (st (v := (B (!r97))) (rv_pick_f (congrArg B hb96) rfl) (sm (B (!r97)) rfl ?_))
         rcases Bool.eq_false_or_eq_true (!r97) with hb101 | hb101
         ·replace h := bif_t hb101 h
          refine st_skip (congrArg some hb101) (st_skip (congrArg some hb101) (st_skip (congrArg some hb101) (st (v := (B true)) (rv_pick_t (congrArg B hb101) rfl) (w_end ?_))))
          obtain rfl := sj h
          exact ⟨rfl, _, σ100, fr_join ⟨rfl, rfl, rfl, rfl, rfl, rfl, rfl, rfl, rfl, trivial⟩, rfl, H.sel' [3, 4, 1, 0] rfl rfl⟩
         ·replace h := bif_f hb101 h
          refine st_g (v := (B r45.2)) (congrArg some hb101) (rv_move rfl) (st_g (v := (B r24.2)) (congrArg some hb101) (rv_move rfl) (st_g (v := (B (r45.2 != r24.2))) (congrArg some hb101) (rv_bneq Tryz.underlying4 rfl rfl) (st (v := (B (r45.2 != r24.2))) (rv_pick_f (congrArg B hb101) rfl) (w_end ?_))))
          obtain rfl := sj h
          exact ⟨rfl, _, σ100, fr_join ⟨rfl, rfl, rfl, rfl, rfl, rfl, rfl, rfl, rfl, trivial⟩, rfl, H.sel' [3, 4, 1, 0] rfl rfl⟩
       ·clear hj
        have h := h'
        clear h' H
        rintro e a w ⟨rfl, ρ, σ102, rfl, rfl, H⟩
        refine q_then ?_
        refine cd_cond o95 rfl (fun hb103 => ?_) (fun hb103 => ?_)
        ·replace h := bif_t hb103 h
         refine c_seq (rg (sa (B false) rfl (w_end (q_then (c_ret (q_then_r ?_))))))
         obtain rfl := sj h
         exact fin_ret (v := (B false)) (results_ok Tryz.results6 (res_tmp (v := (B false)) rfl res_nil) rfl) ⟨rfl, rfl⟩ (H.sel' [] rfl rfl)
        ·replace h := bif_f hb103 h
         refine c_skip (q_then (c_seq (rg (sa (I 1) rfl (w_end (q_then (c_seq (rg (sm (Sl a48 r45.1 c49) rfl (sm (I 1) rfl ?_))))))))))
         replace H := H.ownLow 3 0 0 rfl (Nat.zero_le _) (Nat.zero_le _)
         revert h; refine br fun r104 hx105 h => ?_
         have hc106 := c_laws_markIntS (Ad := a48) (Ae := c49) hx105
         refine st_call (cx_call hc106 (ent_f hc106.fn rfl) hn0 (H.sel' [0, 1, 2, 3] rfl rfl : Hp S0 σ0 _ ([_] ++ _))) wn ?_
         rintro _ σ108 ⟨_, ⟨rfl, rfl, hn107⟩, H, -⟩
         replace H : Hp _ _ _ [_, _, _, _] := H
         have hsl : (Sl a48 r45.1 c49) = (Sl a48 r104.2 c49) := sl_len hn107.symm
         try rw [hsl]
         try rw [hsl] at H
         clear hsl
         refine sa (I r104.1) rfl (w_end (q_then (c_seq (rg (sa (I 1) rfl (w_end (q_then (c_seq (rg (sm (Sl a48 r104.2 c49) rfl (sm (I 1) rfl ?_)))))))))))
         revert h; refine br fun r109 hx110 h => ?_
         have hc111 := c_laws_heldIntS (Ad := a48) (Ae := c49) hx110
         have hle := Nat.le_trans hn0 H.size
         refine st_call (cx_lend (Loan.lend Loan.nil) hc111 (ent_f hc111.fn rfl) (show Hp S0 σ0 _ ([Ch.own 0 0 (Sl a48 r104.2 c49) r104.2] ++ ([] ++ [Ch.ro 0 (Sl Hg Ha Hi) Ha, Ch.ro 0 (Sl Hj Hf Hk) Hf, Ch.own n0 n0 (Sl a27 r24.1 c28) r24.1])) from (H.sel' [0, 1, 2, 3] rfl rfl)) (by rintro _ _ _ ⟨rfl, rfl⟩; exact trivial)) wn ?_
         rintro _ σ112 ⟨_, ⟨rfl, rfl⟩, H, -, -⟩
         replace H : Hp _ _ _ [_, _, _, _] := H
         clear hle
         replace H : Hp _ _ _ [_, _, _, _] := H
         refine sa (I r109) rfl (w_end (q_then (c_seq (c_seq (rg (sm (I r109) rfl (st (v := (B (decide (r109 < 0)))) (rv_lss (a := r109) (b := 0) rfl rfl) (w_end (q_then ?_)))))))))
         refine cd_cond (decide (r109 < 0)) rfl (fun hb113 => ?_) (fun hb113 => ?_)
         ·replace h := bif_t hb113 h
          refine c_seq (rg (sa (B false) rfl (w_end (q_then (c_ret (q_then_r ?_))))))
          obtain rfl := sj h
          exact fin_ret (v := (B false)) (results_ok Tryz.results6 (res_tmp (v := (B false)) rfl res_nil) rfl) ⟨rfl, rfl⟩ (H.sel' [] rfl rfl)
         ·replace h := bif_f hb113 h
          refine c_skip (q_then (c_seq (c_seq (rg (sm (I r109) rfl (sm (I r104.1) rfl (st (v := (B (r109 != r104.1))) (rv_neq (a := r109) (b := r104.1) rfl rfl) (w_end (q_then ?_)))))))))
          refine cd_cond (r109 != r104.1) rfl (fun hb114 => ?_) (fun hb114 => ?_)
          ·replace h := bif_t hb114 h
           refine c_seq (rg (sa (B false) rfl (w_end (q_then (c_ret (q_then_r ?_))))))
           obtain rfl := sj h
           exact fin_ret (v := (B false)) (results_ok Tryz.results6 (res_tmp (v := (B false)) rfl res_nil) rfl) ⟨rfl, rfl⟩ (H.sel' [] rfl rfl)
          ·replace h := bif_f hb114 h
           refine c_skip (q_then (c_seq (rg (sm (Sl Hg Ha Hi) rfl ?_))))
           revert h; refine br fun r115 hx116 h => ?_
           have hc117 := c_laws_toItemS (Ad := Hg) (Ae := Hi) hx116
           refine st_call (cx_call hc117 (ent_f hc117.fn rfl) hn0 (H.sel' [1, 0, 1, 2, 3] rfl rfl : Hp S0 σ0 _ ([_] ++ _))) wn ?_
           rintro _ σ122 ⟨_, ⟨a118, c119, K120, rfl, rfl, hK121⟩, H, -⟩
           replace H : Hp _ _ _ [_, _, _, _, _] := H
           refine sm (I Hc) rfl (sm (I Hd) rfl (sm (I He) rfl (sm (Sl Hj Hf Hk) rfl ?_)))
           revert h; refine br fun r123 hx124 h => ?_
           have hc125 := c_laws_toIntS (Ad := Hj) (Ae := Hk) hx124
           refine st_call (cx_call hc125 (ent_f hc125.fn rfl) hn0 (H.sel' [3, 0, 1, 2, 3, 4] rfl rfl : Hp S0 σ0 _ ([_] ++ _))) wn ?_
           rintro _ σ129 ⟨_, ⟨a126, c127, rfl, rfl, ht128⟩, H, -⟩
           replace H : Hp _ _ _ [_, _, _, _, _, _] := H
           obtain ⟨σ130, hw131, H, -⟩ := H.pub 0 rfl (Nat.le_refl _)
           rw [← hw131]; clear hw131
           replace H := H.roLow 0 0 rfl (Nat.zero_le _)
           revert h; refine br fun r132 hx133 h => ?_
           have hc134 := c_impl_WalkTo (Au := a118) (Av := c119) (Bu := a126) (Bv := c127) hx133
           have hle := Nat.le_trans hn0 H.size
           refine st_call (cx_lend (Loan.lendB hK121.lends (Loan.same Loan.nil)) hc134 (ent_f hc134.fn rfl) (show Hp S0 σ0 _ ([Ch.big K120] ++ ([Ch.ro 0 (Sl a126 r123 c127) r123] ++ [Ch.ro 0 (Sl a126 r123 c127) r123, Ch.ro n0 (Sl a126 r123 c127) r123, Ch.own 0 0 (Sl a48 r104.2 c49) r104.2, Ch.ro 0 (Sl Hg Ha Hi) Ha, Ch.ro 0 (Sl Hj Hf Hk) Hf, Ch.own n0 n0 (Sl a27 r24.1 c28) r24.1])) from (H.sel' [2, 0, 0, 1, 3, 4, 5, 6] rfl rfl)) (by rintro _ _ _ ⟨_, _, rfl, rfl⟩; exact ⟨Ab.ownSc, trivial⟩)) wn ?_
           rintro _ σ137 ⟨_, ⟨a135, c136, rfl, rfl⟩, H, -, -⟩
           replace H : Hp _ _ _ [_, _, _, _, _, _, _, _] := H
           replace H := H.ownLow 0 n0 n0 rfl hle hle
           clear hle
           replace H : Hp _ _ _ [_, _, _, _, _, _, _, _] := H
           replace H : Hp S0 σ0 σ137 [Ch.own n0 n0 (Sl a135 r132.1 c136) r132.1, Ch.own 0 0 (Sl a48 r104.2 c49) r104.2, Ch.own n0 n0 (Sl a27 r24.1 c28) r24.1] := H.sel' [0, 4, 7] rfl rfl
           refine sm (.tuple #[(Sl a135 r132.1 c136), (B r132.2)]) rfl (st (v := (Sl a135 r132.1 c136)) (rv_extract rfl rfl) (st (v := (B r132.2)) (rv_extract rfl rfl) (sa (Sl a135 r132.1 c136) rfl (sa (B r132.2) rfl (w_end (q_then (c_seq (c_seq ?_))))))))
           obtain ⟨o138, hj, h'⟩ := bind_some h
           clear h
           refine c_cut (fun e a w => e = .normal ∧ ∃ (ρ : Nat → Value) (σ : St), a = fr 132 (updL ρ [(16, (Sl a48 r104.2 c49)), (19, (I r104.1)), (123, (B o138))]) ∧ w = σ.w ∧ Hp S0 σ0 σ [Ch.own 0 0 (Sl a48 r104.2 c49) r104.2]) ?_ ?_
           ·clear h'
            rename _ = some o138 => h
            refine rg (sm (Sl a135 r132.1 c136) rfl (sm (Sl a27 r24.1 c28) rfl ?_))
            obtain ⟨σ139, hw140, H, -⟩ := H.pub 0 rfl (Nat.le_refl _)
            rw [← hw140]; clear hw140
            obtain ⟨σ141, hw142, H, -⟩ := H.pub 2 rfl (Nat.le_refl _)
            rw [← hw142]; clear hw142
            replace H := H.roLow 1 0 rfl (Nat.zero_le _)
            replace H := H.roLow 1 0 rfl (Nat.zero_le _)
            revert h; refine br fun r143 hx144 h => ?_
            have hc145 := c_laws_eqIntS (Ad := a135) (Ae := c136) (Ai := a27) (Aj := c28) hx144
            refine st_call (cx_call hc145 (ent_f hc145.fn rfl) hn0 (H.sel' [1, 0, 0, 1, 2, 3, 4] rfl rfl : Hp S0 σ0 _ ([_, _] ++ _))) wn ?_
            rintro _ σ146 ⟨_, ⟨rfl, rfl⟩, H, -⟩
            replace H : Hp _ _ _ [_, _, _, _, _] := H
            refine st (v := (B (!r143))) (rv_not rfl) (sm (B (!r143)) rfl ?_)
            rcases Bool.eq_false_or_eq_true (!r143) with hb147 | hb147
            ·replace h := bif_t hb147 h
             refine st_skip (congrArg some hb147) (st_skip (congrArg some hb147) (st_skip (congrArg some hb147) (st (v := (B true)) (rv_pick_t (congrArg B hb147) rfl) (w_end ?_))))
             obtain rfl := sj h
             exact ⟨rfl, _, σ146, fr_join ⟨rfl, rfl, rfl, trivial⟩, rfl, H.sel' [4] rfl rfl⟩
            ·replace h := bif_f hb147 h
             refine st_g (v := (B r132.2)) (congrArg some hb147) (rv_move rfl) (st_g (v := (B r24.2)) (congrArg some hb147) (rv_move rfl) (st_g (v := (B (r132.2 != r24.2))) (congrArg some hb147) (rv_bneq Tryz.underlying4 rfl rfl) (st (v := (B (r132.2 != r24.2))) (rv_pick_f (congrArg B hb147) rfl) (w_end ?_))))
             obtain rfl := sj h
             exact ⟨rfl, _, σ146, fr_join ⟨rfl, rfl, rfl, trivial⟩, rfl, H.sel' [4] rfl rfl⟩
           ·clear hj
            have h := h'
            clear h' H
            rintro e a w ⟨rfl, ρ, σ148, rfl, rfl, H⟩
            refine q_then ?_
            refine cd_cond o138 rfl (fun hb149 => ?_) (fun hb149 => ?_)
            ·replace h := bif_t hb149 h
             refine c_seq (rg (sa (B false) rfl (w_end (q_then (c_ret (q_then_r ?_))))))
             obtain rfl := sj h
             exact fin_ret (v := (B false)) (results_ok Tryz.results6 (res_tmp (v := (B false)) rfl res_nil) rfl) ⟨rfl, rfl⟩ (H.sel' [] rfl rfl)
            ·replace h := bif_f hb149 h
             refine c_skip (q_then (c_seq (rg (sa (I 1) rfl (w_end (q_then (c_seq (rg (sm (Sl a48 r104.2 c49) rfl (sm (I 1) rfl ?_))))))))))
             obtain ⟨σ150, hw151, H, -⟩ := H.pub 0 rfl (Nat.le_refl _)
             rw [← hw151]; clear hw151
             revert h; refine br fun r152 hx153 h => ?_
             have hc154 := c_laws_heldIntS (Ad := a48) (Ae := c49) hx153
             refine st_call (cx_call hc154 (ent_f hc154.fn rfl) hn0 (H.sel' [0, 0] rfl rfl : Hp S0 σ0 _ ([_] ++ _))) wn ?_
             rintro _ σ155 ⟨_, ⟨rfl, rfl⟩, H, -⟩
             replace H : Hp _ _ _ [_] := H
             refine sa (I r152) rfl (w_end (q_then (c_seq (c_seq (rg (sm (I r152) rfl (st (v := (B (decide (r152 < 0)))) (rv_lss (a := r152) (b := 0) rfl rfl) (w_end (q_then ?_)))))))))
             refine cd_cond (decide (r152 < 0)) rfl (fun hb156 => ?_) (fun hb156 => ?_)
             ·replace h := bif_t hb156 h
              refine c_seq (rg (sa (B false) rfl (w_end (q_then (c_ret (q_then_r ?_))))))
              obtain rfl := sj h
              exact fin_ret (v := (B false)) (results_ok Tryz.results6 (res_tmp (v := (B false)) rfl res_nil) rfl) ⟨rfl, rfl⟩ (H.sel' [] rfl rfl)
             ·replace h := bif_f hb156 h
              refine c_skip (q_then (c_seq (c_seq (rg (sm (I r152) rfl (sm (I r104.1) rfl (st (v := (B (r152 != r104.1))) (rv_neq (a := r152) (b := r104.1) rfl rfl) (w_end (q_then ?_)))))))))
              refine cd_cond (r152 != r104.1) rfl (fun hb157 => ?_) (fun hb157 => ?_)
              ·replace h := bif_t hb157 h
               refine c_seq (rg (sa (B false) rfl (w_end (q_then (c_ret (q_then_r ?_))))))
               obtain rfl := sj h
               exact fin_ret (v := (B false)) (results_ok Tryz.results6 (res_tmp (v := (B false)) rfl res_nil) rfl) ⟨rfl, rfl⟩ (H.sel' [] rfl rfl)
              ·replace h := bif_f hb157 h
               refine c_skip (q_then (c_seq (rg (sa (B true) rfl (w_end (q_then (c_ret ?_)))))))
               obtain rfl := sj h
               exact fin_ret (v := (B true)) (results_ok Tryz.results6 (res_tmp (v := (B true)) rfl res_nil) rfl) ⟨rfl, rfl⟩ (H.sel' [] rfl rfl)

end Go.Vs

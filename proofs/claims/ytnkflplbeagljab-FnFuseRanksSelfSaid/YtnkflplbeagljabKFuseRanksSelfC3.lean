/- The functions compute what their models say. -/
import Derived.Test.YtnkflplbeagljabKFuseRanksSelfC2
set_option linter.unusedVariables false
set_option linter.unusedSimpArgs false
set_option maxRecDepth 20000
namespace Go.Vs
open Go Go.Proofs
attribute [local irreducible] Code.wp Code.wpIn wpList wpListIn wpQuiet Calls CallsIn

def sort67_ren : Go.Shelf.Ren := ⟨fun | 6 => 67 | 15 => 93 | 14 => 92 | 28 => 114 | 29 => 115 | 20 => 106 | 21 => 107 | 22 => 108 | 23 => 109 | 24 => 110 | 25 => 111 | 26 => 112 | 27 => 113 | 46 => 130 | 47 => 131 | 48 => 132 | 49 => 133 | 50 => 134 | 57 => 142 | n => n, fun | 22 => 23 | 24 => 40 | 25 => 61 | 3 => 3 | 39 => 97 | 0 => 0 | 53 => 121 | 55 => 123 | 4 => 4 | 46 => 114 | 45 => 113 | 50 => 118 | 5 => 5 | 9 => 9 | 66 => 138 | 70 => 142 | 76 => 155 | 77 => 156 | n => n, fun | n => n⟩
theorem sort67 : Go.Proofs.SlLaysF0.n6 Try.prog sort67_ren := {
  mixed := by kernel_rfl
  f6 := ⟨Try.f67.name, by decide, Try.func67.trans (congrArg some (by kernel_rfl))⟩
  f14 := ⟨Try.f92.name, by decide, Try.func92.trans (congrArg some (by kernel_rfl))⟩
  f15 := Try.func93.trans (congrArg some (by kernel_rfl))
  f20 := ⟨Try.f106.name, by decide, Try.func106.trans (congrArg some (by kernel_rfl))⟩
  f21 := ⟨Try.f107.name, by decide, Try.func107.trans (congrArg some (by kernel_rfl))⟩
  f22 := ⟨Try.f108.name, by decide, Try.func108.trans (congrArg some (by kernel_rfl))⟩
  f23 := ⟨Try.f109.name, by decide, Try.func109.trans (congrArg some (by kernel_rfl))⟩
  f24 := ⟨Try.f110.name, by decide, Try.func110.trans (congrArg some (by kernel_rfl))⟩
  f25 := ⟨Try.f111.name, by decide, Try.func111.trans (congrArg some (by kernel_rfl))⟩
  f26 := ⟨Try.f112.name, by decide, Try.func112.trans (congrArg some (by kernel_rfl))⟩
  f27 := ⟨Try.f113.name, by decide, Try.func113.trans (congrArg some (by kernel_rfl))⟩
  f28 := Try.func114.trans (congrArg some (by kernel_rfl))
  f29 := Try.func115.trans (congrArg some (by kernel_rfl))
  f46 := ⟨Try.f130.name, by decide, Try.func130.trans (congrArg some (by kernel_rfl))⟩
  f47 := Try.func131.trans (congrArg some (by kernel_rfl))
  f48 := Try.func132.trans (congrArg some (by kernel_rfl))
  f49 := ⟨Try.f133.name, by decide, Try.func133.trans (congrArg some (by kernel_rfl))⟩
  f50 := ⟨Try.f134.name, by decide, Try.func134.trans (congrArg some (by kernel_rfl))⟩
  f57 := ⟨Try.f142.name, by decide, Try.func142.trans (congrArg some (by kernel_rfl))⟩
  t0 := Try.underlying0
  a0 := Try.isAgg0
  z0 := Try.sizeOf0
  v0 := Try.zeroValue0
  t3 := Try.underlying3
  a3 := Try.isAgg3
  z3 := Try.sizeOf3
  v3 := Try.zeroValue3
  t4 := Try.underlying4
  a4 := Try.isAgg4
  z4 := Try.sizeOf4
  v4 := Try.zeroValue4
  t5 := Try.underlying5
  a5 := Try.isAgg5
  z5 := Try.sizeOf5
  v5 := Try.zeroValue5
  t9 := Try.underlying9
  a9 := Try.isAgg9
  z9 := Try.sizeOf9
  v9 := Try.zeroValue9
  t22 := Try.underlying23
  a22 := Try.isAgg23
  z22 := Try.sizeOf23
  v22 := Try.zeroValue23
  t25 := Try.underlying61
  a25 := Try.isAgg61
  z25 := Try.sizeOf61
  v25 := Try.zeroValue61
  t39 := Try.underlying97
  a39 := Try.isAgg97
  z39 := Try.sizeOf97
  v39 := Try.zeroValue97
  t45 := Try.underlying113
  a45 := Try.isAgg113
  z45 := Try.sizeOf113
  v45 := Try.zeroValue113
  t46 := Try.underlying114
  a46 := Try.isAgg114
  z46 := Try.sizeOf114
  v46 := Try.zeroValue114
  t50 := Try.underlying118
  a50 := Try.isAgg118
  z50 := Try.sizeOf118
  v50 := Try.zeroValue118
  t53 := Try.underlying121
  a53 := Try.isAgg121
  z53 := Try.sizeOf121
  v53 := Try.zeroValue121
  t55 := Try.underlying123
  a55 := Try.isAgg123
  z55 := Try.sizeOf123
  v55 := Try.zeroValue123
  t66 := Try.underlying138
  a66 := Try.isAgg138
  z66 := Try.sizeOf138
  v66 := Try.zeroValue138
  t70 := Try.underlying142
  a70 := Try.isAgg142
  z70 := Try.sizeOf142
  v70 := Try.zeroValue142
  t76 := Try.underlying155
  a76 := Try.isAgg155
  z76 := Try.sizeOf155
  v76 := Try.zeroValue155
  t77 := Try.underlying156
  a77 := Try.isAgg156
  z77 := Try.sizeOf156
  v77 := Try.zeroValue156 }

theorem c_slices_SortFunc_impl_Hit_impl_Hit__impl_compareHits {x_0 : List (Int × Int)} {ax_0 : Option Addr} {cx_0 : Nat} {r : List (Int × Int)} (h : M.slices_SortFunc_impl_Hit_impl_Hit__impl_compareHits x_0 = some r) :
    Cal2 Try.prog 67 [(Sl ax_0 x_0 cx_0), (.func (.func 45) #[] #[])] [Ch.own 0 0 (Sl ax_0 x_0 cx_0) x_0] (fun n0 v L => v = (.tuple #[]) ∧ L = [Ch.own 0 0 (Sl ax_0 r cx_0) r] ∧ r.length = x_0.length) := by
 obtain ⟨hn, hs, hL, rfl⟩ := sortD_some h
 have hE : ∀ σ σ' : St, Ext σ σ' → (True) → (True) := fun _ _ _ hp => hp
 have hB : ∀ σ : St, allAs σ [] → apart [] → ∃ σp, Pb (cov []) σ σp ∧ True := fun σ _ _ => ⟨σ, ⟨rfl, fun _ _ => rfl, fun _ => Nat.le_refl _⟩, trivial⟩
 have hC : ∀ σ : St, (True) → ∀ x ∈ x_0, ∀ y ∈ x_0, ∀ cx cy, Rp.rp 0 σ cx x → Rp.rp 0 σ cy y → Calls Try.prog 45 ([Value.agg cx.toArray, Value.agg cy.toArray] ++ []).toArray σ.w fun e w' => e = .returned (I ((M.impl_compareHits (x.1, x.2) (y.1, y.2)).getD 0)) ∧ ∃ q os, w' = Go.Sort.grow (σ.w.drewN q) os := by
     intro σ hp x hx y hy cx cy rx ry
     obtain ⟨r, hr⟩ := hs x hx y hy
     obtain ⟨_, _, rfl, rfl, rfl⟩ := rx
     obtain ⟨_, _, rfl, rfl, rfl⟩ := ry
     have hc := c_impl_compareHits  hr
     refine (hc.runs σ 0 (Nat.zero_le _) (Hp.begin trivial trivial)).mono ?_
     rintro e w' ⟨v, σ', L', rfl, rfl, ⟨rfl, -⟩, H⟩
     exact ⟨by rw [hr]; rfl, (H.md.mono fun i => fun h => h).grown⟩
 refine (sort_cal2 (α := (Int × Int)) sort67 Try.isAgg40 Try.sizeOf40 (xs := x_0) (a := ax_0) (c := cx_0) (g := 45) (cb := []) (B := []) (fun x y => (M.impl_compareHits (x.1, x.2) (y.1, y.2)).getD 0) hL hn ⟨_, _, Try.func45, rfl, rfl⟩ _ hE hB hC).conv ?_
 rintro m v L ⟨rfl, rfl⟩
 exact ⟨_, ⟨rfl, rfl, sortL_len⟩, fun H => H.sel' [0] rfl rfl⟩

theorem c_impl_mergedHits {a_0 : List (Int × Int)} {b_1 : List (Int × Int)} {aa_0 : Option Addr} {ca_0 : Nat} {ab_1 : Option Addr} {cb_1 : Nat} {r : (List (Int × Int))} (h : M.impl_mergedHits a_0 b_1 = some r) :
    Cal2 Try.prog 35 [(Sl aa_0 a_0 ca_0), (Sl ab_1 b_1 cb_1)] [Ch.ro 0 (Sl aa_0 a_0 ca_0) a_0, Ch.ro 0 (Sl ab_1 b_1 cb_1) b_1] (fun n0 v L => ∃ (az1 : Option Addr), ∃ (cz2 : Nat), v = (Sl az1 r cz2) ∧ L = [Ch.own n0 n0 (Sl az1 r cz2) r]) := by
 refine cal2 (n := 32) Try.func35 rfl rfl rfl rfl ?_
 intro S0 σ0 n0 hn0 H
 unfold M.impl_mergedHits at h
 refine c_seq ?_
 refine rg ?_
 refine st (v := (.slice none 0 0)) (rv_assign rfl) ?_
 refine w_end ?_
 refine q_then ?_
 refine c_seq ?_
 refine rg ?_
 refine st (v := (.slice none 0 0)) (rv_assign rfl) ?_
 refine w_end ?_
 refine q_then ?_
 refine c_seq ?_
 refine rg ?_
 refine st (v := (Sl aa_0 a_0 ca_0)) (rv_move rfl) ?_
 refine st (v := (Sl ab_1 b_1 cb_1)) (rv_move rfl) ?_
 refine st_ex (ex_buildSlice (el := 0) (xs := ([a_0, b_1] : List (List (Int × Int)))) (ps := [(0, (Sl aa_0 a_0 ca_0)), (1, (Sl ab_1 b_1 cb_1))]) (cs := [(Sl aa_0 a_0 ca_0), (Sl ab_1 b_1 cb_1)]) H hn0 Try.underlying93 ti23 rfl rfl (by kernel_rfl) (.cons (c := [(Sl aa_0 a_0 ca_0)]) ⟨_, rfl, (H.ro 0 rfl)⟩ (.cons (c := [(Sl ab_1 b_1 cb_1)]) ⟨_, rfl, (H.ro 1 rfl)⟩ (.nil))) rfl) wn ?_
 rintro _ σ2 ⟨b1, rfl, H, -⟩
 obtain ⟨σ3, hw4, H, -⟩ := H.pub 0 rfl (Nat.zero_le _)
 rw [← hw4]; clear hw4
 obtain ⟨r5, hx6, h'⟩ := bind_some h
 clear h
 have h := h'; clear h'
 have hc7 := c_slices_Concat_impl_Hit_impl_Hit (aslices_0 := (some ⟨b1, 0, none⟩)) (cslices_0 := 2) hx6
 refine st_call (cx_call hc7 (ent_f hc7.fn rfl) hn0 (show Hp S0 σ0 _ ([Ch.ro 0 (Sl (some ⟨b1, 0, none⟩) ([a_0, b_1] : List (List (Int × Int))) 2) ([a_0, b_1] : List (List (Int × Int)))] ++ [Ch.ro 0 (Sl (some ⟨b1, 0, none⟩) ([a_0, b_1] : List (List (Int × Int))) 2) ([a_0, b_1] : List (List (Int × Int))), Ch.ro 0 (Sl aa_0 a_0 ca_0) a_0, Ch.ro 0 (Sl ab_1 b_1 cb_1) b_1]) from (H.sel' [0, 0, 1, 2] rfl rfl))) wn ?_
 rintro _ σ10 ⟨_, ⟨a8, c9, rfl, rfl⟩, H, -⟩
 replace H : Hp S0 σ0 σ10 [Ch.own 0 n0 (Sl a8 r5 c9) r5, Ch.ro 0 (Sl (some ⟨b1, 0, none⟩) ([a_0, b_1] : List (List (Int × Int))) 2) ([a_0, b_1] : List (List (Int × Int))), Ch.ro 0 (Sl aa_0 a_0 ca_0) a_0, Ch.ro 0 (Sl ab_1 b_1 cb_1) b_1] := H
 refine st (v := (Sl a8 r5 c9)) (rv_assign rfl) ?_
 refine w_end ?_
 refine q_then ?_
 refine c_seq ?_
 refine rg ?_
 refine st (v := (Sl a8 r5 c9)) (rv_move rfl) ?_
 replace H := H.ownLow 0 0 0 rfl (Nat.zero_le _) (Nat.zero_le _)
 obtain ⟨r11, hx12, h'⟩ := bind_some h
 clear h
 have h := h'; clear h'
 have hc13 := c_slices_SortFunc_impl_Hit_impl_Hit__impl_compareHits (ax_0 := a8) (cx_0 := c9) hx12
 refine st_call (cx_call hc13 (ent_f hc13.fn rfl) hn0 (show Hp S0 σ0 _ ([Ch.own 0 0 (Sl a8 r5 c9) r5] ++ [Ch.ro 0 (Sl (some ⟨b1, 0, none⟩) ([a_0, b_1] : List (List (Int × Int))) 2) ([a_0, b_1] : List (List (Int × Int))), Ch.ro 0 (Sl aa_0 a_0 ca_0) a_0, Ch.ro 0 (Sl ab_1 b_1 cb_1) b_1]) from (H.sel' [0, 1, 2, 3] rfl rfl))) wn ?_
 rintro _ σ15 ⟨_, ⟨rfl, rfl, hn14⟩, H, -⟩
 replace H : Hp S0 σ0 σ15 [Ch.own 0 0 (Sl a8 r11 c9) r11, Ch.ro 0 (Sl (some ⟨b1, 0, none⟩) ([a_0, b_1] : List (List (Int × Int))) 2) ([a_0, b_1] : List (List (Int × Int))), Ch.ro 0 (Sl aa_0 a_0 ca_0) a_0, Ch.ro 0 (Sl ab_1 b_1 cb_1) b_1] := H
 have hsl : (Sl a8 r5 c9) = (Sl a8 r11 c9) := sl_len hn14.symm
 try rw [hsl]
 try rw [hsl] at H
 clear hsl
 refine w_end ?_
 refine q_then ?_
 refine c_seq ?_
 refine c_seq ?_
 refine rg ?_
 refine st (v := (Sl a8 r11 c9)) (rv_move rfl) ?_
 refine st (v := (I (r11.length : Int))) (rv_len Try.underlying23 rfl) ?_
 refine st (v := (I 0)) (rv_move rfl) ?_
 refine w_end ?_
 refine q_then ?_
 obtain ⟨o16, hj, h'⟩ := bind_some h
 clear h
 refine c_cut (fun e a w => e = .normal ∧ ∃ (ρ : Nat → Value) (σ : St) (aj1 : Option Addr) (cj2 : Nat), a = fr 32 (updL ρ [(5, (Sl aj1 o16 cj2))]) ∧ w = σ.w ∧ Hp S0 σ0 σ [Ch.own n0 n0 (Sl aj1 o16 cj2) o16]) ?_ ?_
 ·clear h'
  rename _ = some o16 => h
  refine c_blk ?_
  replace H := H.nilOwn (Int × Int) n0 n0
  refine wp_loopM _ h (fun s17 a w => ∃ (ρ : Nat → Value) (σ : St) (aj1 : Option Addr) (cj2 : Nat), a = fr 32 (updL ρ [(5, (Sl aj1 s17.1 cj2)), (15, (Sl a8 r11 c9)), (16, (I (r11.length : Int))), (17, (I s17.2))]) ∧ w = σ.w ∧ Hp S0 σ0 σ [Ch.own n0 n0 (Sl aj1 s17.1 cj2) s17.1, Ch.own 0 0 (Sl a8 r11 c9) r11]) ⟨_, σ15, none, 0, fr_join ⟨rfl, rfl, rfl, rfl, trivial⟩, rfl, H.sel' [0, 1] rfl rfl⟩ ?_
  clear h H
  rintro s17 a w o ⟨ρ, σ18, a19, c20, rfl, rfl, H⟩ h hres
  refine c_seq ?_
  refine rg ?_
  refine st (v := (B (decide (s17.2 < (r11.length : Int))))) (rv_lss (a := s17.2) (b := (r11.length : Int)) rfl rfl) ?_
  refine w_end ?_
  refine q_then ?_
  refine c_seq ?_
  refine cd_cond (decide (s17.2 < (r11.length : Int))) rfl (fun hb21 => ?_) (fun hb21 => ?_)
  ·replace h := bif_t hb21 h
   refine c_skip ?_
   refine q_then ?_
   refine c_seq ?_
   obtain ⟨o22, hj, h'⟩ := bind_some h
   clear h
   refine c_cut (fun e a w => e = .normal ∧ ∃ (ρ : Nat → Value) (σ : St) (aj1 : Option Addr) (cj2 : Nat), a = fr 32 (updL ρ [(5, (Sl aj1 o22 cj2)), (15, (Sl a8 r11 c9)), (16, (I (r11.length : Int))), (17, (I s17.2))]) ∧ w = σ.w ∧ Hp S0 σ0 σ [Ch.own n0 n0 (Sl aj1 o22 cj2) o22, Ch.own 0 0 (Sl a8 r11 c9) r11]) ?_ ?_
   ·clear h'
    rename _ = some o22 => h
    refine c_blk ?_
    refine c_seq ?_
    refine rg ?_
    obtain ⟨x23, hx24, h'⟩ := bind_some h
    clear h
    have h := h'; clear h'
    obtain ⟨b26, o27, hi25, -⟩ := (H.own 1 rfl).ix hx24
    refine st (v := (pt b26 o27)) (rv_ix Try.underlying23 ti40 rfl rfl hi25) ?_
    obtain ⟨_, ⟨_, _, rfl, rfl, rfl⟩, hl28, hc29⟩ := ((H.own 1 rfl).at hx24 hi25).cells
    refine st (v := (.agg #[(I x23.1), (I x23.2)])) (rv_load Try.underlying40 rfl ti40 rfl hl28 hc29) ?_
    refine st_ex (ex_alloc (cs := [(I 0), (I 0)]) H hn0 ti40 rfl) wn ?_
    rintro _ σ31 ⟨b30, rfl, H, -⟩
    refine st_exS (ex_store_box (k := 0) (cs := [(I 0), (I 0)]) (vs := [(I x23.1), (I x23.2)]) (cs' := [(I x23.1), (I x23.2)]) H (i := 0) rfl ti40 rfl rfl rfl rfl rfl (Nat.le_of_ble_eq_true rfl) (by simp [plain]) rfl) wn ?_
    rintro σ32 ⟨H, -⟩
    refine w_end ?_
    refine q_then ?_
    refine c_seq ?_
    refine rg ?_
    refine st (v := (Sl a19 s17.1 c20)) (rv_move rfl) ?_
    refine st (v := (pt b30 0)) (rv_fieldAddr (off := 0) (ft := 3) Try.underlying40 rfl ti3 rfl rfl) ?_
    have hc33 := H.cell (u := (I x23.1)) (o' := 0) 0 0 rfl rfl rfl
    refine st (v := (I x23.1)) (rv_load1 Try.underlying3 rfl rfl hc33) ?_
    obtain ⟨r34, hx35, h'⟩ := bind_some h
    clear h
    have h := h'; clear h'
    have hc36 := c_impl_placeIn (alist_0 := a19) (clist_0 := c20) hx35
    have hle := Nat.le_trans hn0 H.size
    refine st_call (cx_lend (Loan.lend Loan.nil) hc36 (ent_f hc36.fn rfl) (show Hp S0 σ0 _ ([Ch.own n0 n0 (Sl a19 s17.1 c20) s17.1] ++ ([] ++ [Ch.bx n0 b30 0 [(I x23.1), (I x23.2)] [] [], Ch.own 0 0 (Sl a8 r11 c9) r11])) from (H.sel' [1, 0, 2] rfl rfl)) (by rintro _ _ _ ⟨rfl, rfl⟩; exact trivial)) wn ?_
    rintro _ σ37 ⟨_, ⟨rfl, rfl⟩, H, -, -⟩
    replace H : Hp S0 σ0 σ37 [Ch.own n0 n0 (Sl a19 s17.1 c20) s17.1, Ch.bx n0 b30 0 [(I x23.1), (I x23.2)] [] [], Ch.own 0 0 (Sl a8 r11 c9) r11] := H
    clear hle
    replace H : Hp S0 σ0 σ37 [Ch.own n0 n0 (Sl a19 s17.1 c20) s17.1, Ch.bx n0 b30 0 [(I x23.1), (I x23.2)] [] [], Ch.own 0 0 (Sl a8 r11 c9) r11] := H
    refine st (v := (B (decide (r34 < 0)))) (rv_lss (a := r34) (b := 0) rfl rfl) ?_
    refine w_end ?_
    refine q_then ?_
    refine cd_cond (decide (r34 < 0)) rfl (fun hb38 => ?_) (fun hb38 => ?_)
    ·replace h := bif_t hb38 h
     refine rg ?_
     refine st (v := (Sl a19 s17.1 c20)) (rv_move rfl) ?_
     have hc39 := H.cells 1 rfl
     refine st (v := (.agg #[(I x23.1), (I x23.2)])) (rv_load (cs := [(I x23.1), (I x23.2)]) Try.underlying40 rfl ti40 rfl rfl hc39) ?_
     refine st_ex (ex_buildSlice (el := n0) (xs := ([(x23.1, x23.2)] : List (Int × Int))) (ps := [(0, (.agg #[(I x23.1), (I x23.2)]))]) (cs := [(I x23.1), (I x23.2)]) H hn0 Try.underlying23 ti40 rfl rfl (by kernel_rfl) (.cons (c := [(I x23.1), (I x23.2)]) ⟨[(I x23.1)], [(I x23.2)], rfl, rfl, rfl⟩ (.nil)) rfl) wn ?_
     rintro _ σ41 ⟨b40, rfl, H, -⟩
     obtain ⟨xs42, hx43, h'⟩ := bind_some h
     clear h
     have h := h'; clear h'
     refine st_ex (ex_append H (i := 1) rfl Try.underlying23 Try.underlying23 ti40 rfl rfl (by decide) (H.own 0 rfl).rd hx43 hn0 rfl rfl) wn ?_
     rintro _ σ46 ⟨a44, c45, rfl, H, -⟩
     refine st (v := (Sl a44 xs42 c45)) (rv_assign rfl) ?_
     refine w_end ?_
     refine q_blk ?_
     obtain rfl := Option.some.inj h
     exact ⟨rfl, _, σ46, a44, c45, fr_join ⟨rfl, rfl, rfl, rfl, trivial⟩, rfl, H.sel' [0, 3] rfl rfl⟩
    ·replace h := bif_f hb38 h
     refine c_skip ?_
     refine q_blk ?_
     obtain rfl := Option.some.inj h
     exact ⟨rfl, _, σ37, a19, c20, fr_join ⟨rfl, rfl, rfl, rfl, trivial⟩, rfl, H.sel' [0, 2] rfl rfl⟩
   ·clear hj
    have h := h'
    clear h' H
    rintro e a w ⟨rfl, ρ, σ47, a48, c49, rfl, rfl, H⟩
    refine q_then ?_
    refine rg ?_
    refine st (v := (I (w64 (s17.2 + 1)))) (rv_add (a := s17.2) (b := 1) rfl rfl) ?_
    refine st (v := (I (w64 (s17.2 + 1)))) (rv_move rfl) ?_
    refine w_end ?_
    refine q_then ?_
    obtain rfl := Option.some.inj h
    exact ⟨_, rfl, _, σ47, a48, c49, fr_join ⟨rfl, rfl, rfl, rfl, trivial⟩, rfl, H.sel' [0, 1] rfl rfl⟩
  ·replace h := bif_f hb21 h
   refine c_exit ?_
   refine q_then_x ?_
   refine q_then_x ?_
   refine q_blk_hit ?_
   obtain rfl := Option.some.inj h
   obtain rfl := hres _ rfl
   exact ⟨rfl, _, σ18, a19, c20, fr_join ⟨rfl, trivial⟩, rfl, H.sel' [0] rfl rfl⟩
 ·clear hj
  have h := h'
  clear h' H
  rintro e a w ⟨rfl, ρ, σ50, a51, c52, rfl, rfl, H⟩
  refine q_then ?_
  refine c_seq ?_
  refine rg ?_
  refine st (v := (Sl a51 o16 c52)) (rv_move rfl) ?_
  refine st (v := (Sl a51 o16 c52)) (rv_assign rfl) ?_
  refine w_end ?_
  refine q_then ?_
  refine c_ret ?_
  obtain rfl := Option.some.inj h
  exact fin_ret (v := (Sl a51 o16 c52)) (results_ok Try.results35 (res_tmp (v := (Sl a51 o16 c52)) rfl res_nil) rfl) ⟨a51, c52, rfl, rfl⟩ (H.sel' [0] rfl rfl)

theorem c_maps_Keys_map_int_int_int_int {m_0 : List (Int × Int)} {mm_0 : Nat} {Om_0 : Obj} (hOm_0 : MiO Om_0 m_0) {r : Unit} (h : M.maps_Keys_map_int_int_int_int m_0 = some r) :
    Cal2 Try.prog 37 [(.map (some mm_0))] [Ch.ob 0 mm_0 Om_0] (fun n0 v L => ∃ (bz1 : Nat), v = (.func (.func 70) #[] #[(pt bz1 0)]) ∧ L = [Ch.bx n0 bz1 0 [(.map (some mm_0))] [] [], Ch.ob 0 mm_0 Om_0]) := by
 refine cal2 (n := 4) Try.func37 rfl rfl rfl rfl ?_
 intro S0 σ0 n0 hn0 H
 unfold M.maps_Keys_map_int_int_int_int at h
 refine c_seq ?_
 refine rg ?_
 refine st_ex (ex_box (cs := [(.map (some mm_0))]) H hn0 rfl rfl) wn ?_
 rintro _ σ2 ⟨b1, rfl, H, -⟩
 refine st (v := .nilFunc) (rv_assign rfl) ?_
 refine w_end ?_
 refine q_then ?_
 refine c_seq ?_
 refine rg ?_
 refine st (v := (.func (.func 70) #[] #[(pt b1 0)])) (rv_makeFunc (vs := [(pt b1 0)]) rfl) ?_
 refine st (v := (.func (.func 70) #[] #[(pt b1 0)])) (rv_assign rfl) ?_
 refine w_end ?_
 refine q_then ?_
 refine c_ret ?_
 obtain rfl := Option.some.inj h
 exact fin_ret (v := (.func (.func 70) #[] #[(pt b1 0)])) (results_ok Try.results37 (res_tmp (v := (.func (.func 70) #[] #[(pt b1 0)])) rfl res_nil) rfl) ⟨b1, rfl, rfl⟩ (H.sel' [0, 1] rfl rfl)

theorem c_impl_FuseRanks_1__p_map_int_int {x_0 : Int} {y_1 : Int} {p_2 : List (Int × Int)} {bp_2 op_2 mp_2 : Nat} {Op_2 : Obj} (hOp_2 : MiO Op_2 p_2) {r : Int} (h : M.impl_FuseRanks_1__p_map_int_int x_0 y_1 p_2 = some r) :
    Cal2 Try.prog 38 [(I x_0), (I y_1), (pt bp_2 op_2)] [Ch.ro 0 (Sl (some ⟨bp_2, op_2, none⟩) ([⟨mp_2⟩] : List MRef) 1) ([⟨mp_2⟩] : List MRef), Ch.ob 0 mp_2 Op_2] (fun n0 v L => v = (I r) ∧ L = [Ch.ob 0 mp_2 Op_2]) := by
 refine cal2 (n := 18) Try.func38 rfl rfl rfl rfl ?_
 intro S0 σ0 n0 hn0 H
 unfold M.impl_FuseRanks_1__p_map_int_int at h
 have hxp_2 : gidx ([⟨mp_2⟩] : List MRef) 0 = some ⟨mp_2⟩ := rfl
 have hip_2 : Ix (Sl (some ⟨bp_2, op_2, none⟩) ([⟨mp_2⟩] : List MRef) 1) 0 1 bp_2 op_2 := ix_one
 refine c_seq ?_
 refine rg ?_
 refine st (v := (I 0)) (rv_assign rfl) ?_
 refine w_end ?_
 refine q_then ?_
 refine c_seq ?_
 refine rg ?_
 have hc1 := ((H.ro 0 rfl).at hxp_2 hip_2).mref
 refine st (v := (.map (some mp_2))) (rv_load1 Try.underlying51 rfl rfl hc1) ?_
 refine st (v := (I y_1)) (rv_move rfl) ?_
 have hL2 := (H.ob 1 rfl).1
 refine st (v := (I (iget p_2 y_1))) (rv_lookupI (k := y_1) hOp_2 Try.underlying51 Try.underlying3 ti3 rfl rfl hL2) ?_
 have hc3 := ((H.ro 0 rfl).at hxp_2 hip_2).mref
 refine st (v := (.map (some mp_2))) (rv_load1 Try.underlying51 rfl rfl hc3) ?_
 refine st (v := (I x_0)) (rv_move rfl) ?_
 have hL4 := (H.ob 1 rfl).1
 refine st (v := (I (iget p_2 x_0))) (rv_lookupI (k := x_0) hOp_2 Try.underlying51 Try.underlying3 ti3 rfl rfl hL4) ?_
 obtain ⟨r5, hx6, h'⟩ := bind_some h
 clear h
 have h := h'; clear h'
 have hc7 := c_cmp_Compare_int hx6
 refine st_call (cx_call hc7 (ent_f hc7.fn rfl) hn0 (show Hp S0 σ0 _ ([] ++ [Ch.ro 0 (Sl (some ⟨bp_2, op_2, none⟩) ([⟨mp_2⟩] : List MRef) 1) ([⟨mp_2⟩] : List MRef), Ch.ob 0 mp_2 Op_2]) from (H.sel' [0, 1] rfl rfl))) wn ?_
 rintro _ σ8 ⟨_, ⟨rfl, rfl⟩, H, -⟩
 replace H : Hp S0 σ0 σ8 [Ch.ro 0 (Sl (some ⟨bp_2, op_2, none⟩) ([⟨mp_2⟩] : List MRef) 1) ([⟨mp_2⟩] : List MRef), Ch.ob 0 mp_2 Op_2] := H
 refine st (v := (I x_0)) (rv_move rfl) ?_
 refine st (v := (I y_1)) (rv_move rfl) ?_
 obtain ⟨r9, hx10, h'⟩ := bind_some h
 clear h
 have h := h'; clear h'
 have hc11 := c_cmp_Compare_int hx10
 refine st_call (cx_call hc11 (ent_f hc11.fn rfl) hn0 (show Hp S0 σ0 _ ([] ++ [Ch.ro 0 (Sl (some ⟨bp_2, op_2, none⟩) ([⟨mp_2⟩] : List MRef) 1) ([⟨mp_2⟩] : List MRef), Ch.ob 0 mp_2 Op_2]) from (H.sel' [0, 1] rfl rfl))) wn ?_
 rintro _ σ12 ⟨_, ⟨rfl, rfl⟩, H, -⟩
 replace H : Hp S0 σ0 σ12 [Ch.ro 0 (Sl (some ⟨bp_2, op_2, none⟩) ([⟨mp_2⟩] : List MRef) 1) ([⟨mp_2⟩] : List MRef), Ch.ob 0 mp_2 Op_2] := H
 refine st_ex (ex_buildSlice (el := n0) (xs := ([r5, r9] : List Int)) (ps := [(0, (I r5)), (1, (I r9))]) (cs := [(I r5), (I r9)]) H hn0 Try.underlying26 ti3 rfl rfl (by kernel_rfl) (.cons (c := [(I r5)]) rfl (.cons (c := [(I r9)]) rfl (.nil))) rfl) wn ?_
 rintro _ σ14 ⟨b13, rfl, H, -⟩
 obtain ⟨σ15, hw16, H, -⟩ := H.pub 0 rfl (Nat.le_refl _)
 rw [← hw16]; clear hw16
 replace H := H.roLow 0 0 rfl (Nat.zero_le _)
 obtain ⟨r17, hx18, h'⟩ := bind_some h
 clear h
 have h := h'; clear h'
 have hc19 := c_cmp_Or_int (avals_0 := (some ⟨b13, 0, none⟩)) (cvals_0 := 2) hx18
 refine st_call (cx_call hc19 (ent_f hc19.fn rfl) hn0 (show Hp S0 σ0 _ ([Ch.ro 0 (Sl (some ⟨b13, 0, none⟩) ([r5, r9] : List Int) 2) ([r5, r9] : List Int)] ++ [Ch.ro 0 (Sl (some ⟨b13, 0, none⟩) ([r5, r9] : List Int) 2) ([r5, r9] : List Int), Ch.ro n0 (Sl (some ⟨b13, 0, none⟩) ([r5, r9] : List Int) 2) ([r5, r9] : List Int), Ch.ro 0 (Sl (some ⟨bp_2, op_2, none⟩) ([⟨mp_2⟩] : List MRef) 1) ([⟨mp_2⟩] : List MRef), Ch.ob 0 mp_2 Op_2]) from (H.sel' [0, 0, 1, 2, 3] rfl rfl))) wn ?_
 rintro _ σ20 ⟨_, ⟨rfl, rfl⟩, H, -⟩
 replace H : Hp S0 σ0 σ20 [Ch.ro 0 (Sl (some ⟨b13, 0, none⟩) ([r5, r9] : List Int) 2) ([r5, r9] : List Int), Ch.ro n0 (Sl (some ⟨b13, 0, none⟩) ([r5, r9] : List Int) 2) ([r5, r9] : List Int), Ch.ro 0 (Sl (some ⟨bp_2, op_2, none⟩) ([⟨mp_2⟩] : List MRef) 1) ([⟨mp_2⟩] : List MRef), Ch.ob 0 mp_2 Op_2] := H
 refine st (v := (I r17)) (rv_assign rfl) ?_
 refine w_end ?_
 refine q_then ?_
 refine c_ret ?_
 obtain rfl := Option.some.inj h
 exact fin_ret (v := (I r17)) (results_ok Try.results38 (res_tmp (v := (I r17)) rfl res_nil) rfl) ⟨rfl, rfl⟩ (H.sel' [3] rfl rfl)

def sort69_ren : Go.Shelf.Ren := ⟨fun | 6 => 69 | 15 => 93 | 14 => 95 | 28 => 114 | 29 => 115 | 20 => 116 | 21 => 117 | 22 => 118 | 23 => 119 | 24 => 120 | 25 => 121 | 26 => 122 | 27 => 123 | 46 => 135 | 47 => 131 | 48 => 132 | 49 => 136 | 50 => 137 | 57 => 143 | n => n, fun | 22 => 26 | 24 => 3 | 25 => 58 | 3 => 3 | 39 => 97 | 0 => 0 | 53 => 121 | 55 => 123 | 4 => 4 | 46 => 114 | 45 => 113 | 50 => 118 | 5 => 5 | 9 => 9 | 66 => 138 | 70 => 142 | 76 => 155 | 77 => 156 | n => n, fun | n => n⟩
theorem sort69 : Go.Proofs.SlLaysF.n6 Try.prog sort69_ren := {
  mixed := by kernel_rfl
  f6 := ⟨Try.f69.name, by decide, Try.func69.trans (congrArg some (by kernel_rfl))⟩
  f14 := ⟨Try.f95.name, by decide, Try.func95.trans (congrArg some (by kernel_rfl))⟩
  f15 := Try.func93.trans (congrArg some (by kernel_rfl))
  f20 := ⟨Try.f116.name, by decide, Try.func116.trans (congrArg some (by kernel_rfl))⟩
  f21 := ⟨Try.f117.name, by decide, Try.func117.trans (congrArg some (by kernel_rfl))⟩
  f22 := ⟨Try.f118.name, by decide, Try.func118.trans (congrArg some (by kernel_rfl))⟩
  f23 := ⟨Try.f119.name, by decide, Try.func119.trans (congrArg some (by kernel_rfl))⟩
  f24 := ⟨Try.f120.name, by decide, Try.func120.trans (congrArg some (by kernel_rfl))⟩
  f25 := ⟨Try.f121.name, by decide, Try.func121.trans (congrArg some (by kernel_rfl))⟩
  f26 := ⟨Try.f122.name, by decide, Try.func122.trans (congrArg some (by kernel_rfl))⟩
  f27 := ⟨Try.f123.name, by decide, Try.func123.trans (congrArg some (by kernel_rfl))⟩
  f28 := Try.func114.trans (congrArg some (by kernel_rfl))
  f29 := Try.func115.trans (congrArg some (by kernel_rfl))
  f46 := ⟨Try.f135.name, by decide, Try.func135.trans (congrArg some (by kernel_rfl))⟩
  f47 := Try.func131.trans (congrArg some (by kernel_rfl))
  f48 := Try.func132.trans (congrArg some (by kernel_rfl))
  f49 := ⟨Try.f136.name, by decide, Try.func136.trans (congrArg some (by kernel_rfl))⟩
  f50 := ⟨Try.f137.name, by decide, Try.func137.trans (congrArg some (by kernel_rfl))⟩
  f57 := ⟨Try.f143.name, by decide, Try.func143.trans (congrArg some (by kernel_rfl))⟩
  t0 := Try.underlying0
  a0 := Try.isAgg0
  z0 := Try.sizeOf0
  v0 := Try.zeroValue0
  t3 := Try.underlying3
  a3 := Try.isAgg3
  z3 := Try.sizeOf3
  v3 := Try.zeroValue3
  t4 := Try.underlying4
  a4 := Try.isAgg4
  z4 := Try.sizeOf4
  v4 := Try.zeroValue4
  t5 := Try.underlying5
  a5 := Try.isAgg5
  z5 := Try.sizeOf5
  v5 := Try.zeroValue5
  t9 := Try.underlying9
  a9 := Try.isAgg9
  z9 := Try.sizeOf9
  v9 := Try.zeroValue9
  t22 := Try.underlying26
  a22 := Try.isAgg26
  z22 := Try.sizeOf26
  v22 := Try.zeroValue26
  a24 := Try.isAgg3
  z24 := Try.sizeOf3
  t25 := Try.underlying58
  a25 := Try.isAgg58
  z25 := Try.sizeOf58
  v25 := Try.zeroValue58
  t39 := Try.underlying97
  a39 := Try.isAgg97
  z39 := Try.sizeOf97
  v39 := Try.zeroValue97
  t45 := Try.underlying113
  a45 := Try.isAgg113
  z45 := Try.sizeOf113
  v45 := Try.zeroValue113
  t46 := Try.underlying114
  a46 := Try.isAgg114
  z46 := Try.sizeOf114
  v46 := Try.zeroValue114
  t50 := Try.underlying118
  a50 := Try.isAgg118
  z50 := Try.sizeOf118
  v50 := Try.zeroValue118
  t53 := Try.underlying121
  a53 := Try.isAgg121
  z53 := Try.sizeOf121
  v53 := Try.zeroValue121
  t55 := Try.underlying123
  a55 := Try.isAgg123
  z55 := Try.sizeOf123
  v55 := Try.zeroValue123
  t66 := Try.underlying138
  a66 := Try.isAgg138
  z66 := Try.sizeOf138
  v66 := Try.zeroValue138
  t70 := Try.underlying142
  a70 := Try.isAgg142
  z70 := Try.sizeOf142
  v70 := Try.zeroValue142
  t76 := Try.underlying155
  a76 := Try.isAgg155
  z76 := Try.sizeOf155
  v76 := Try.zeroValue155
  t77 := Try.underlying156
  a77 := Try.isAgg156
  z77 := Try.sizeOf156
  v77 := Try.zeroValue156 }

/-- What the iterator does: it hands the keys over, in whatever order. -/
theorem it_slices_SortedFunc_int__maps_Keys_map_int_int_int_int_1__impl_FuseRanks_1 {m : List (Int × Int)} {E : Array MapEntry} {clk : Nat} (hm : MiOk E clk m) {b o bm l : Nat} {F : List Int → List Ch → Prop} {S0 : BS} {σ0 : St}
    (hbx : ∀ {t : List Int} {L0 R : List Ch} {σ : St}, F t L0 → Hp S0 σ0 σ (L0 ++ R) → HCell σ.w.heap b o = some (.map (some bm)) ∧ σ.w.heap[bm]? = some (.map E clk))
    (hy : ∀ (t : List Int) (x : Int), t.length < m.length → ∀ (σ : St) (L0 R : List Ch), F t L0 → Hp S0 σ0 σ (L0 ++ R) → YieldAt Fence.wide 0 Try.prog l [I x].toArray σ.w fun e W' => e = .returned (.bool true) ∧ ∃ σ' L0', W' = σ'.w ∧ F (t ++ [x]) L0' ∧ Hp S0 σ0 σ' (L0' ++ R))
    (σ : St) (L0 : List Ch) (h0 : F [] L0) (H : Hp S0 σ0 σ L0) :
    CallsIn Fence.wide 0 Try.prog 70 [.func (.yield l) #[] #[], (pt b o)].toArray σ.w fun e W' => (∃ v, e = .returned v) ∧ ∃ t σ' L0', t.Perm (m.map (·.1)) ∧ W' = σ'.w ∧ F t L0' ∧ Hp S0 σ0 σ' L0' := by
  refine enterI (n := 14) Try.func70 rfl rfl rfl ?_
  refine wpIn_seq ?_
  obtain ⟨hc, hb⟩ := hbx (R := []) h0 (by rw [List.append_nil]; exact H)
  refine rgI ?_
  refine stI nofun (v := (.map (some bm))) (rv_load1 Try.underlying51 rfl rfl hc) ?_
  refine stI_ex nofun (ex_range (lo := 0) H (Nat.zero_le _) Try.underlying51 rfl hb) ?_
  rintro _ σ1 ⟨r, rfl, H1, -⟩
  replace H1 : Hp S0 σ0 σ1 (L0 ++ [Ch.ob 0 r (.mapIter (some bm) clk #[] clk)]) := Hp.swapA (A := [Ch.ob 0 r (.mapIter (some bm) clk #[] clk)]) H1
  refine endI ?_
  refine q_then ?_
  refine wpIn_block ?_
  refine wpIn_loop_ghost (fun k a' w' => ∃ t seen S c0 L0 ρ σ, t.length + k = m.length ∧ a' = fr 14 (updL ρ [(0, .func (.yield l) #[] #[]), (1, pt b o), (5, .pointer (some ⟨r, 0, none⟩))]) ∧ w' = σ.w ∧ F t L0 ∧ ItR E seen t S ∧ clk ≤ c0 ∧ Hp S0 σ0 σ (L0 ++ [Ch.ob 0 r (.mapIter (some bm) clk seen c0)])) m.length ⟨[], #[], [], clk, L0, _, σ1, by simp, fr_join ⟨rfl, rfl, rfl, trivial⟩, rfl, h0, ItR.start, Nat.le_refl _, H1⟩ ?_
  clear hc hb h0 H H1
  rintro k _ _ ⟨t, seen, S, c0, L0, ρ, σ, hik, rfl, rfl, hF, hI, hc0, H⟩
  refine wpIn_seq ?_
  refine rgI ?_
  obtain ⟨-, hb⟩ := hbx hF H
  refine stI_ex nofun (ex_next (Hp.swapA H) rfl hb hm.born hc0) ?_
  rintro v σ2 (⟨h0, rfl, H2⟩ | ⟨e, he, rfl, H2⟩)
  · refine stI nofun (v := (B false)) (rv_extract rfl rfl) ?_
    refine endI ?_
    refine q_then ?_
    refine wpIn_seq ?_
    refine cdI_cond false rfl (fun hb => by cases hb) (fun _ => ?_)
    refine wpIn_exit ?_
    refine q_then_x ?_
    refine q_then_x ?_
    refine q_blk_hit ?_
    exact fin_plain' (v := .tuple #[]) (results_ok Try.results70 res_nil rfl) ⟨⟨_, rfl⟩, t, σ2, L0, hI.done hm h0, rfl, hF, H2.tail⟩
  · have heE : e ∈ E.toList := (ItR.step hI he (Classical.choose_spec (Classical.choose_spec (hm.keyI (by unfold leftOf at he; rw [Array.toList_filter, List.mem_filter] at he; exact he.1)))).1).2
    obtain ⟨x, y, hx, hyv, -⟩ := hm.keyI heE
    obtain ⟨hI2, -⟩ := hI.step he hx
    have hlen := hI2.len hm
    rw [List.length_append, List.length_singleton] at hlen
    have H3 : Hp S0 σ0 σ2 (L0 ++ [Ch.ob 0 r (.mapIter (some bm) clk (seen.push e.born) clk)]) := Hp.swapA (A := [Ch.ob 0 r (.mapIter (some bm) clk (seen.push e.born) clk)]) H2
    obtain ⟨-, hb2⟩ := hbx hF H3
    refine stI nofun (v := (B true)) (rv_extract rfl rfl) ?_
    refine endI ?_
    refine q_then ?_
    refine wpIn_seq ?_
    refine cdI_cond true rfl (fun _ => ?_) (fun hb => by cases hb)
    refine wpIn_skip ?_
    refine q_then ?_
    refine wpIn_block ?_
    refine wpIn_seq ?_
    refine rgI ?_
    refine stI nofun (v := (.tuple #[e.key, e.val])) (rv_entry rfl H2.head.1 hb2 heE hm.nd) ?_
    refine stI nofun (v := (I x)) (rv_extract rfl (by simp [hx])) ?_
    refine stI nofun (v := (I x)) (rv_assign rfl) ?_
    refine endI ?_
    refine q_then ?_
    refine wpIn_seq ?_
    refine rgI ?_
    refine stI nofun (v := (.func (.yield l) #[] #[])) (rv_move rfl) ?_
    refine stI nofun (v := (I x)) (rv_move rfl) ?_
    refine stI_yield (args := [(I x)]) rfl rfl (hy t x (by omega) σ2 L0 _ hF H3) ?_
    rintro e' w' ⟨rfl, σ4, L4, rfl, hF4, H4⟩
    refine ⟨_, rfl, ?_⟩
    refine stI nofun (v := (B (!true))) (rv_not rfl) ?_
    refine endI ?_
    refine q_then ?_
    refine cdI_cond false rfl (fun hb => by cases hb) (fun _ => ?_)
    refine wpIn_skip ?_
    refine q_blk ?_
    exact ⟨k - 1, by omega, t ++ [x], _, _, _, L4, _, σ4, by rw [List.length_append, List.length_singleton]; omega, fr_join ⟨rfl, rfl, rfl, trivial⟩, rfl, hF4, hI2, Nat.le_refl _, H4⟩
/-- The keys are appended. -/
theorem ap_slices_SortedFunc_int__maps_Keys_map_int_int_int_int_1__impl_FuseRanks_1 {m : List (Int × Int)} {O : Obj} (hO : MiO O m) (hn : m.length ≤ 1000000) {lo b o bm lm : Nat} {pre suf : List Value} :
    Cal2 Try.prog 94 [.slice none 0 0, (.func (.func 70) #[] #[(pt b o)])] [Ch.bx lo b o [(.map (some bm))] pre suf, Ch.ob lm bm O] (fun n0 v L => ∃ (a : Option Addr) (c : Nat) (ss : List Int), ss.Perm (m.map (·.1)) ∧ v = Sl a ss c ∧ L = [Ch.own n0 n0 (Sl a ss c) ss, Ch.bx lo b o [(.map (some bm))] pre suf, Ch.ob lm bm O]) := by
  obtain ⟨E, clk, rfl, hm⟩ := hO
  refine ⟨⟨_, _, Try.func94, rfl, rfl⟩, fun σ0 n0 hn0 H => ?_⟩
  refine callsIn_wide.1 (enterI (n := 13) Try.func94 rfl rfl rfl ?_)
  refine wpIn_seq ?_
  refine rgI ?_
  refine stI_ex nofun (ex_box (cs := [.slice none 0 0]) H hn0 rfl rfl) ?_
  rintro _ σ1 ⟨b1, rfl, H, -⟩
  refine stI nofun (v := (.slice none 0 0)) (rv_assign rfl) ?_
  refine endI ?_
  refine q_then ?_
  refine wpIn_seq ?_
  refine wpIn_seq ?_
  refine rgI ?_
  refine stI nofun (v := (.func (.func 70) #[] #[(pt b o)])) (rv_move rfl) ?_
  refine endI ?_
  refine q_then ?_
  refine wpIn_block ?_
  replace H := H.nilOwn Int n0 n0
  refine wp_rangeS (gf := 70) (lb := #[(pt b o)]) (t0 := ([] : List Int)) (fun t e t' => ∃ x : Int, e = [I x].toArray ∧ t' = t ++ [x] ∧ t.length < m.length) (fun t => t.Perm (m.map (·.1))) (by rw [fr_eval]; rfl) (eg_of ⟨_, _, Try.func70, rfl, rfl⟩) (by rintro t e t' ⟨x, rfl, -⟩; rfl)
    (fun t L => ∃ a' c', L = [Ch.own n0 n0 (Sl a' t c') t, Ch.bx n0 b1 0 [(Sl a' t c')] [] [], Ch.bx lo b o [(.map (some bm))] pre suf, Ch.ob lm bm (.map E clk)]) ⟨none, 0, rfl⟩ H ?_ ?_ ?_
  · intro l F hF hy σ L0 h0 H
    refine it_slices_SortedFunc_int__maps_Keys_map_int_int_int_int_1__impl_FuseRanks_1 hm (F := F) (bm := bm) (fun {t L0 R σ} h H => ?_) (fun t x hx σ L0 R h H => hy t _ _ ⟨x, rfl, rfl, hx⟩ σ L0 R h H) σ L0 h0 H
    obtain ⟨L, R', ⟨a', c', rfl⟩, rfl⟩ := hF h
    rw [List.append_assoc] at H
    have H2 := H.drop R'
    exact ⟨H2.cells 2 rfl 0 (by simp), (H2.ob 3 rfl).1⟩
  · rintro S0 σb hle l D t _ _ rc rc' ⟨x, rfl, rfl, hx⟩ σ _ ⟨a', c', rfl⟩ H
    have hn0 : n0 ≤ σb.size := Nat.le_trans hn0 hle
    rw [round_fr]
    refine rgI ?_
    refine stI nofun (v := (I x)) (rv_assign rfl) ?_
    refine endI ?_
    refine q_then ?_
    refine ⟨σ, _, rfl, H, ?_⟩
    clear H
    intro σ4 H
    refine wpIn_block ?_
    refine rgI ?_
    have hc1 := H.cells 3 rfl
    refine stI nofun (v := (Sl a' t c')) (rv_load1 Try.underlying26 rfl rfl (hc1 0 (by simp))) ?_
    refine stI nofun (v := (I x)) (rv_move rfl) ?_
    refine stI_ex nofun (ex_buildSlice (lo := n0) (el := n0) (xs := ([x] : List Int)) (ps := [(0, (I x))]) (cs := [(I x)]) H hn0 Try.underlying26 ti3 rfl rfl (by kernel_rfl) (.cons (c := [(I x)]) rfl .nil) rfl) ?_
    rintro _ σ5 ⟨b10, rfl, H, -⟩
    refine stI_ex nofun (ex_append H (i := 3) rfl Try.underlying26 Try.underlying26 ti3 rfl rfl (by decide) (H.own 0 rfl).rd (show gapp t [x] = some (t ++ [x]) from if_pos (by simp; omega)) hn0 rfl rfl) ?_
    rintro _ σ6 ⟨a2, c2, rfl, H, -⟩
    refine stI_exS nofun (ex_store_box (vs := [(Sl a2 (t ++ [x]) c2)]) (cs' := [(Sl a2 (t ++ [x]) c2)]) (k := 0) H (i := 4) rfl ti26 rfl rfl rfl rfl rfl (Nat.le_of_ble_eq_true rfl) (by simp [plain]) rfl) ?_
    rintro σ7 ⟨H, -⟩
    refine endI ?_
    refine q_blk ?_
    exact ⟨rfl, σ7, _, rfl, ⟨a2, c2, rfl⟩, H.sel' [3, 4, 1, 0, 5, 6] rfl rfl⟩
  · rintro D σ _ t hfin ⟨a', c', rfl⟩ H
    refine q_blk ?_
    refine q_then ?_
    refine wpIn_seq ?_
    refine rgD (ds := [{ target := .collected D, args := #[] }]) ?_
    have hc1 := H.cells 2 rfl
    refine stD nofun (v := (Sl a' t c')) (rv_load1 Try.underlying26 rfl rfl (hc1 0 (by simp))) ?_
    refine stD nofun (v := (Sl a' t c')) (rv_assign rfl) ?_
    refine endD ?_
    refine q_then ?_
    refine wpIn_ret ?_
    exact fin_mark (v := Sl a' t c') H (results_ok Try.results94 (res_tmp (v := Sl a' t c') rfl res_nil) rfl) ⟨_, _, _, rfl, rfl, ⟨a', c', t, hfin, rfl, rfl⟩, (H.putDf _).sel' [0, 2, 3] rfl rfl⟩
/-- The keys are collected. -/
theorem co_slices_SortedFunc_int__maps_Keys_map_int_int_int_int_1__impl_FuseRanks_1 {m : List (Int × Int)} {O : Obj} (hO : MiO O m) (hn : m.length ≤ 1000000) {lo b o bm lm : Nat} {pre suf : List Value} :
    Cal2 Try.prog 68 [(.func (.func 70) #[] #[(pt b o)])] [Ch.bx lo b o [(.map (some bm))] pre suf, Ch.ob lm bm O] (fun n0 v L => ∃ (a : Option Addr) (c : Nat) (ss : List Int), ss.Perm (m.map (·.1)) ∧ v = Sl a ss c ∧ L = [Ch.own n0 n0 (Sl a ss c) ss, Ch.bx lo b o [(.map (some bm))] pre suf, Ch.ob lm bm O]) := by
  refine cal2 (n := 5) Try.func68 rfl rfl rfl rfl ?_
  intro S0 σ0 n0 hn0 H
  refine c_seq ?_
  refine rg ?_
  refine st (v := (.slice none 0 0)) (rv_assign rfl) ?_
  refine w_end ?_
  refine q_then ?_
  refine c_seq ?_
  refine rg ?_
  refine st (v := (.func (.func 70) #[] #[(pt b o)])) (rv_move rfl) ?_
  have hc3 := ap_slices_SortedFunc_int__maps_Keys_map_int_int_int_int_1__impl_FuseRanks_1 hO hn (lo := lo) (b := b) (o := o) (bm := bm) (lm := lm) (pre := pre) (suf := suf)
  refine st_call (cx_call hc3 (ent_f hc3.fn rfl) hn0 (show Hp S0 σ0 _ ([Ch.bx lo b o [(.map (some bm))] pre suf, Ch.ob lm bm O] ++ []) from (H.sel' [0, 1] rfl rfl))) wn ?_
  rintro _ σ6 ⟨_, ⟨a4, c5, ss, hp, rfl, rfl⟩, H, -⟩
  refine st (v := (Sl a4 ss c5)) (rv_assign rfl) ?_
  refine w_end ?_
  refine q_then ?_
  refine c_ret ?_
  exact fin_ret (v := (Sl a4 ss c5)) (results_ok Try.results68 (res_tmp (v := (Sl a4 ss c5)) rfl res_nil) rfl) ⟨a4, c5, ss, hp, rfl, rfl⟩ (H.sel' [0, 1, 2] rfl rfl)
/-- The keys are sorted. -/
theorem so_slices_SortedFunc_int__maps_Keys_map_int_int_int_int_1__impl_FuseRanks_1 {m : List (Int × Int)} {O : Obj} (hO : MiO O m) {ss : List Int} (hn : ss.length ≤ 1000000) (hs : ∀ x ∈ ss, ∀ y ∈ ss, ∃ r, M.impl_FuseRanks_1__p_map_int_int x y m = some r) (hL : Lc (fun x y => (M.impl_FuseRanks_1__p_map_int_int x y m).getD 0) ss) {lo b o bm : Nat} {pre suf : List Value} {a : Option Addr} {c : Nat} :
    Cal2 Try.prog 69 [Sl a ss c, (.func (.func 38) #[] #[(pt b o)])] [Ch.own 0 0 (Sl a ss c) ss, Ch.bx lo b o [(.map (some bm))] pre suf, Ch.ob 0 bm O]
      (fun _ v L => v = .tuple #[] ∧ L = [Ch.own 0 0 (Sl a (sortL (fun x y => (M.impl_FuseRanks_1__p_map_int_int x y m).getD 0) ss) c) (sortL (fun x y => (M.impl_FuseRanks_1__p_map_int_int x y m).getD 0) ss), Ch.bx lo b o [(.map (some bm))] pre suf, Ch.ob 0 bm O]) := by
  have hB : ∀ σ : St, allAs σ [Ch.bx lo b o [(.map (some bm))] pre suf, Ch.ob 0 bm O] → apart [Ch.bx lo b o [(.map (some bm))] pre suf, Ch.ob 0 bm O] → ∃ σp, Pb (cov [Ch.bx lo b o [(.map (some bm))] pre suf, Ch.ob 0 bm O]) σ σp ∧ (RS 0 σp (Sl (some ⟨b, o, none⟩) ([⟨bm⟩] : List MRef) 1) ([⟨bm⟩] : List MRef) ∧ (Ch.ob 0 bm O).as σp) := by
    intro σ hA hP
    obtain ⟨σ0, p0, r0, a0⟩ := pubBox (α := MRef) (x := ⟨bm⟩) hA hP rfl
    exact ⟨σ0, p0.mono (fun i h => .inl h), r0, a0.1⟩
  have hE : ∀ σ σ' : St, Ext σ σ' → (∀ i, cov [Ch.bx lo b o [(.map (some bm))] pre suf, Ch.ob 0 bm O] i → i < σ.size → σ'.w.heap[i]? = σ.w.heap[i]? ∧ σ'.vis i = σ.vis i) → (RS 0 σ (Sl (some ⟨b, o, none⟩) ([⟨bm⟩] : List MRef) 1) ([⟨bm⟩] : List MRef) ∧ (Ch.ob 0 bm O).as σ) → (RS 0 σ' (Sl (some ⟨b, o, none⟩) ([⟨bm⟩] : List MRef) 1) ([⟨bm⟩] : List MRef) ∧ (Ch.ob 0 bm O).as σ') := by
    intro σ σ' hx hi hp
    obtain ⟨h1, h2⟩ := hi bm (.inr (.inl rfl)) (lt_of_block hp.2.1)
    exact ⟨hp.1.ext hx, h1.trans hp.2.1, h2.trans hp.2.2.1, Nat.zero_le _⟩
  have hC : ∀ σ : St, (RS 0 σ (Sl (some ⟨b, o, none⟩) ([⟨bm⟩] : List MRef) 1) ([⟨bm⟩] : List MRef) ∧ (Ch.ob 0 bm O).as σ) → ∀ x ∈ ss, ∀ y ∈ ss, Calls Try.prog 38 ([I x, I y] ++ [(pt b o)]).toArray σ.w fun e w' => e = .returned (I ((M.impl_FuseRanks_1__p_map_int_int x y m).getD 0)) ∧ ∃ q os, w' = Go.Sort.grow (σ.w.drewN q) os := by
    intro σ hp x hx y hy
    obtain ⟨r, hr⟩ := hs x hx y hy
    have hc := c_impl_FuseRanks_1__p_map_int_int (bp_2 := b) (op_2 := o) (mp_2 := bm) (Op_2 := O) (hOp_2 := hO) hr
    refine (hc.runs σ 0 (Nat.zero_le _) (Hp.begin ⟨hp.1, hp.2, trivial⟩ ⟨fun _ h => h.elim, ⟨fun _ _ h => h, trivial⟩⟩)).mono ?_
    rintro e w' ⟨v, σ', L', rfl, rfl, ⟨rfl, rfl⟩, H⟩
    exact ⟨by rw [hr]; rfl, (Md.exact (H.md.mono fun i h => h.elim (fun h => h.elim) (fun h => h.elim (fun h => h) (fun h => h.elim))) hp.2.1 hp.2.2.1 (H.ob 0 rfl).1 (H.ob 0 rfl).2.1).grown⟩
  refine (sort1_cal2 sort69 (xs := ss) (a := a) (c := c) (g := 38) (cb := [(pt b o)]) (B := [Ch.bx lo b o [(.map (some bm))] pre suf, Ch.ob 0 bm O]) (fun x y => (M.impl_FuseRanks_1__p_map_int_int x y m).getD 0) hL hn ⟨_, _, Try.func38, rfl, rfl⟩ _ hE hB hC).conv ?_
  rintro n v L ⟨rfl, rfl⟩
  exact ⟨_, ⟨rfl, rfl⟩, fun H => H⟩
theorem c_slices_SortedFunc_int__maps_Keys_map_int_int_int_int_1__impl_FuseRanks_1 {seq_0_0 : List (Int × Int)} {cmp_1_0 : List (Int × Int)} {mseq_0_0 : Nat} {Oseq_0_0 : Obj} (hOseq_0_0 : MiO Oseq_0_0 seq_0_0) {loseq_0_0 bseq_0_0 oseq_0_0 : Nat} {preseq_0_0 sufseq_0_0 : List Value} {locmp_1_0 bcmp_1_0 ocmp_1_0 : Nat} {precmp_1_0 sufcmp_1_0 : List Value} {r : List Int} (h : M.slices_SortedFunc_int__maps_Keys_map_int_int_int_int_1__impl_FuseRanks_1 seq_0_0 cmp_1_0 = some r) :
    Cal2 Try.prog 36 [(.func (.func 70) #[] #[(pt bseq_0_0 oseq_0_0)]), (.func (.func 38) #[] #[(pt bcmp_1_0 ocmp_1_0)])] [Ch.bx loseq_0_0 bseq_0_0 oseq_0_0 [(.map (some mseq_0_0))] preseq_0_0 sufseq_0_0, Ch.ob 0 mseq_0_0 Oseq_0_0, Ch.bx locmp_1_0 bcmp_1_0 ocmp_1_0 [(.map (some mseq_0_0))] precmp_1_0 sufcmp_1_0] (fun n0 v L => ∃ (az1 : Option Addr), ∃ (cz2 : Nat), v = (Sl az1 r cz2) ∧ L = [Ch.own 0 n0 (Sl az1 r cz2) r, Ch.bx loseq_0_0 bseq_0_0 oseq_0_0 [(.map (some mseq_0_0))] preseq_0_0 sufseq_0_0, Ch.ob 0 mseq_0_0 Oseq_0_0, Ch.bx locmp_1_0 bcmp_1_0 ocmp_1_0 [(.map (some mseq_0_0))] precmp_1_0 sufcmp_1_0]) := by
  obtain ⟨hn, hs, hL, rfl⟩ := sortD_some h
  have hn' : seq_0_0.length ≤ 1000000 := by simpa using hn
  refine cal2 (n := 12) Try.func36 rfl rfl rfl rfl ?_
  intro S0 σ0 n0 hn0 H
  refine c_seq ?_
  refine rg ?_
  refine st (v := (.slice none 0 0)) (rv_assign rfl) ?_
  refine w_end ?_
  refine q_then ?_
  refine c_seq ?_
  refine rg ?_
  refine st (v := (.func (.func 70) #[] #[(pt bseq_0_0 oseq_0_0)])) (rv_move rfl) ?_
  have hc3 := co_slices_SortedFunc_int__maps_Keys_map_int_int_int_int_1__impl_FuseRanks_1 hOseq_0_0 hn' (lo := loseq_0_0) (b := bseq_0_0) (o := oseq_0_0) (bm := mseq_0_0) (lm := 0) (pre := preseq_0_0) (suf := sufseq_0_0)
  refine st_call (cx_call hc3 (ent_f hc3.fn rfl) hn0 (show Hp S0 σ0 _ ([Ch.bx loseq_0_0 bseq_0_0 oseq_0_0 [(.map (some mseq_0_0))] preseq_0_0 sufseq_0_0, Ch.ob 0 mseq_0_0 Oseq_0_0] ++ [Ch.bx locmp_1_0 bcmp_1_0 ocmp_1_0 [(.map (some mseq_0_0))] precmp_1_0 sufcmp_1_0]) from (H.sel' [0, 1, 2] rfl rfl))) wn ?_
  rintro _ σ6 ⟨_, ⟨a4, c5, ss, hp, rfl, rfl⟩, H, -⟩
  refine st (v := (Sl a4 ss c5)) (rv_assign rfl) ?_
  refine w_end ?_
  refine q_then ?_
  refine c_seq ?_
  refine rg ?_
  refine st (v := (Sl a4 ss c5)) (rv_move rfl) ?_
  refine st (v := (.func (.func 38) #[] #[(pt bcmp_1_0 ocmp_1_0)])) (rv_move rfl) ?_
  obtain ⟨he, hL2⟩ := sortL_of_perm hL hp
  have hc9 := so_slices_SortedFunc_int__maps_Keys_map_int_int_int_int_1__impl_FuseRanks_1 hOseq_0_0 (ss := ss) (by rw [hp.length_eq]; exact hn) (fun x hx y hy => hs x (hp.mem_iff.1 hx) y (hp.mem_iff.1 hy)) hL2 (lo := locmp_1_0) (b := bcmp_1_0) (o := ocmp_1_0) (bm := mseq_0_0) (pre := precmp_1_0) (suf := sufcmp_1_0) (a := a4) (c := c5)
  rw [he] at hc9
  replace H : Hp S0 σ0 σ6 [Ch.own n0 n0 (Sl a4 ss c5) ss, Ch.bx loseq_0_0 bseq_0_0 oseq_0_0 [(.map (some mseq_0_0))] preseq_0_0 sufseq_0_0, Ch.ob 0 mseq_0_0 Oseq_0_0, Ch.bx locmp_1_0 bcmp_1_0 ocmp_1_0 [(.map (some mseq_0_0))] precmp_1_0 sufcmp_1_0] := H
  replace H := H.ownLow 0 0 0 rfl (Nat.zero_le _) (Nat.zero_le _)
  refine st_call (cx_call hc9 (ent_f hc9.fn rfl) hn0 (show Hp S0 σ0 _ ([Ch.own 0 0 (Sl a4 ss c5) ss, Ch.bx locmp_1_0 bcmp_1_0 ocmp_1_0 [(.map (some mseq_0_0))] precmp_1_0 sufcmp_1_0, Ch.ob 0 mseq_0_0 Oseq_0_0] ++ [Ch.bx loseq_0_0 bseq_0_0 oseq_0_0 [(.map (some mseq_0_0))] preseq_0_0 sufseq_0_0]) from (H.sel' [0, 3, 2, 1] rfl rfl))) wn ?_
  rintro _ σ11 ⟨_, ⟨rfl, rfl⟩, H, -⟩
  have hsl : (Sl a4 ss c5) = (Sl a4 (sortL (fun x y => (M.impl_FuseRanks_1__p_map_int_int x y seq_0_0).getD 0) (seq_0_0.map (·.1))) c5) := sl_len (by rw [sortL_len, hp.length_eq])
  try rw [hsl]
  try rw [hsl] at H
  clear hsl
  refine w_end ?_
  refine q_then ?_
  refine c_seq ?_
  refine rg ?_
  refine st (v := (Sl a4 (sortL (fun x y => (M.impl_FuseRanks_1__p_map_int_int x y seq_0_0).getD 0) (seq_0_0.map (·.1))) c5)) (rv_move rfl) ?_
  refine st (v := (Sl a4 (sortL (fun x y => (M.impl_FuseRanks_1__p_map_int_int x y seq_0_0).getD 0) (seq_0_0.map (·.1))) c5)) (rv_assign rfl) ?_
  refine w_end ?_
  refine q_then ?_
  refine c_ret ?_
  replace H : Hp S0 σ0 σ11 [Ch.own 0 0 (Sl a4 (sortL (fun x y => (M.impl_FuseRanks_1__p_map_int_int x y seq_0_0).getD 0) (seq_0_0.map (·.1))) c5) (sortL (fun x y => (M.impl_FuseRanks_1__p_map_int_int x y seq_0_0).getD 0) (seq_0_0.map (·.1))), Ch.bx locmp_1_0 bcmp_1_0 ocmp_1_0 [(.map (some mseq_0_0))] precmp_1_0 sufcmp_1_0, Ch.ob 0 mseq_0_0 Oseq_0_0, Ch.bx loseq_0_0 bseq_0_0 oseq_0_0 [(.map (some mseq_0_0))] preseq_0_0 sufseq_0_0] := H
  replace H := H.ownSc 0 0 n0 rfl (Nat.le_refl _)
  exact fin_ret (v := (Sl a4 (sortL (fun x y => (M.impl_FuseRanks_1__p_map_int_int x y seq_0_0).getD 0) (seq_0_0.map (·.1))) c5)) (results_ok Try.results36 (res_tmp (v := (Sl a4 (sortL (fun x y => (M.impl_FuseRanks_1__p_map_int_int x y seq_0_0).getD 0) (seq_0_0.map (·.1))) c5)) rfl res_nil) rfl) ⟨a4, c5, rfl, rfl⟩ (H.sel' [0, 3, 2, 1] rfl rfl)


theorem c_impl_FuseRanks {a_0 : List (Int × Int)} {b_1 : List (Int × Int)} {aa_0 : Option Addr} {ca_0 : Nat} {ab_1 : Option Addr} {cb_1 : Nat} {r : (List Int)} (h : M.impl_FuseRanks a_0 b_1 = some r) :
    Cal2 Try.prog 12 [(Sl aa_0 a_0 ca_0), (Sl ab_1 b_1 cb_1)] [Ch.ro 0 (Sl aa_0 a_0 ca_0) a_0, Ch.ro 0 (Sl ab_1 b_1 cb_1) b_1] (fun n0 v L => ∃ (az1 : Option Addr), ∃ (cz2 : Nat), v = (Sl az1 r cz2) ∧ L = [Ch.own 0 n0 (Sl az1 r cz2) r]) := by
 refine cal2 (n := 42) Try.func12 rfl rfl rfl rfl ?_
 intro S0 σ0 n0 hn0 H
 unfold M.impl_FuseRanks at h
 refine c_seq ?_
 refine rg ?_
 refine st (v := (.slice none 0 0)) (rv_assign rfl) ?_
 refine w_end ?_
 refine q_then ?_
 refine c_seq ?_
 refine c_seq ?_
 obtain ⟨o1, hj, h'⟩ := bind_some h
 clear h
 refine c_cut (fun e a w => e = .normal ∧ ∃ (ρ : Nat → Value) (σ : St), a = fr 42 (updL ρ [(0, (Sl aa_0 a_0 ca_0)), (1, (Sl ab_1 b_1 cb_1)), (15, (B o1))]) ∧ w = σ.w ∧ Hp S0 σ0 σ [Ch.ro 0 (Sl aa_0 a_0 ca_0) a_0, Ch.ro 0 (Sl ab_1 b_1 cb_1) b_1]) ?_ ?_
 ·clear h'
  rename _ = some o1 => h
  refine rg ?_
  refine st (v := (Sl aa_0 a_0 ca_0)) (rv_move rfl) ?_
  obtain ⟨r2, hx3, h'⟩ := bind_some h
  clear h
  have h := h'; clear h'
  have hc4 := c_impl_ValidHits (alist_0 := aa_0) (clist_0 := ca_0) hx3
  refine st_call (cx_call hc4 (ent_f hc4.fn rfl) hn0 (show Hp S0 σ0 _ ([Ch.ro 0 (Sl aa_0 a_0 ca_0) a_0] ++ [Ch.ro 0 (Sl aa_0 a_0 ca_0) a_0, Ch.ro 0 (Sl ab_1 b_1 cb_1) b_1]) from (H.sel' [0, 0, 1] rfl rfl))) wn ?_
  rintro _ σ5 ⟨_, ⟨rfl, rfl⟩, H, -⟩
  replace H : Hp S0 σ0 σ5 [Ch.ro 0 (Sl aa_0 a_0 ca_0) a_0, Ch.ro 0 (Sl ab_1 b_1 cb_1) b_1] := H
  refine st (v := (B (!r2))) (rv_not rfl) ?_
  refine st (v := (B (!r2))) (rv_move rfl) ?_
  rcases Bool.eq_false_or_eq_true (!r2) with hb6 | hb6
  ·replace h := bif_t hb6 h
   refine st_skip (congrArg some hb6) ?_
   refine st_skip (congrArg some hb6) ?_
   refine st_skip (congrArg some hb6) ?_
   refine st (v := (B true)) (rv_pick_t (congrArg B hb6) rfl) ?_
   refine w_end ?_
   obtain rfl := Option.some.inj h
   exact ⟨rfl, _, σ5, fr_join ⟨rfl, rfl, rfl, trivial⟩, rfl, H.sel' [0, 1] rfl rfl⟩
  ·replace h := bif_f hb6 h
   refine st_g (v := (Sl ab_1 b_1 cb_1)) (congrArg some hb6) (rv_move rfl) ?_
   obtain ⟨r7, hx8, h'⟩ := bind_some h
   clear h
   have h := h'; clear h'
   have hc9 := c_impl_ValidHits (alist_0 := ab_1) (clist_0 := cb_1) hx8
   refine st_call (cx_call hc9 (ent_f hc9.fn rfl) hn0 (show Hp S0 σ0 _ ([Ch.ro 0 (Sl ab_1 b_1 cb_1) b_1] ++ [Ch.ro 0 (Sl aa_0 a_0 ca_0) a_0, Ch.ro 0 (Sl ab_1 b_1 cb_1) b_1]) from (H.sel' [1, 0, 1] rfl rfl))) (wanted_yes rfl (by exact (congrArg some hb6))) ?_
   rintro _ σ10 ⟨_, ⟨rfl, rfl⟩, H, -⟩
   replace H : Hp S0 σ0 σ10 [Ch.ro 0 (Sl aa_0 a_0 ca_0) a_0, Ch.ro 0 (Sl ab_1 b_1 cb_1) b_1] := H
   refine st_g (v := (B (!r7))) (congrArg some hb6) (rv_not rfl) ?_
   refine st (v := (B (!r7))) (rv_pick_f (congrArg B hb6) rfl) ?_
   refine w_end ?_
   obtain rfl := Option.some.inj h
   exact ⟨rfl, _, σ10, fr_join ⟨rfl, rfl, rfl, trivial⟩, rfl, H.sel' [0, 1] rfl rfl⟩
 ·clear hj
  have h := h'
  clear h' H
  rintro e a w ⟨rfl, ρ, σ11, rfl, rfl, H⟩
  refine q_then ?_
  refine cd_cond o1 rfl (fun hb12 => ?_) (fun hb12 => ?_)
  ·replace h := bif_t hb12 h
   refine c_seq ?_
   refine rg ?_
   refine st (v := (.slice none 0 0)) (rv_assign rfl) ?_
   refine w_end ?_
   refine q_then ?_
   refine c_ret ?_
   refine q_then_r ?_
   replace H := H.nilOwn Int 0 n0
   obtain rfl := Option.some.inj h
   exact fin_ret (v := (.slice none 0 0)) (results_ok Try.results12 (res_tmp (v := (.slice none 0 0)) rfl res_nil) rfl) ⟨none, 0, rfl, rfl⟩ (H.sel' [0] rfl rfl)
  ·replace h := bif_f hb12 h
   refine c_skip ?_
   refine q_then ?_
   refine c_seq ?_
   refine rg ?_
   refine st_ex (ex_makeMapI (lo := 0) H (Nat.zero_le _)) wn ?_
   rintro _ σ16 ⟨b13, O14, rfl, hO15, H, -⟩
   refine st_ex (ex_alloc (cs := [(.map none)]) H hn0 ti51 rfl) wn ?_
   rintro _ σ18 ⟨b17, rfl, H, -⟩
   refine st_exS (ex_store_box (k := 0) (cs := [(.map none)]) (vs := [(.map (some b13))]) (cs' := [(.map (some b13))]) H (i := 0) rfl ti51 rfl rfl rfl rfl rfl (Nat.le_of_ble_eq_true rfl) (by simp [plain]) rfl) wn ?_
   rintro σ19 ⟨H, -⟩
   refine w_end ?_
   refine q_then ?_
   refine c_seq ?_
   refine c_seq ?_
   refine rg ?_
   refine st (v := (Sl aa_0 a_0 ca_0)) (rv_move rfl) ?_
   refine st (v := (Sl ab_1 b_1 cb_1)) (rv_move rfl) ?_
   obtain ⟨r20, hx21, h'⟩ := bind_some h
   clear h
   have h := h'; clear h'
   have hc22 := c_impl_mergedHits (aa_0 := aa_0) (ca_0 := ca_0) (ab_1 := ab_1) (cb_1 := cb_1) hx21
   refine st_call (cx_call hc22 (ent_f hc22.fn rfl) hn0 (show Hp S0 σ0 _ ([Ch.ro 0 (Sl aa_0 a_0 ca_0) a_0, Ch.ro 0 (Sl ab_1 b_1 cb_1) b_1] ++ [Ch.bx n0 b17 0 [(.map (some b13))] [] [], Ch.ob 0 b13 O14, Ch.ro 0 (Sl aa_0 a_0 ca_0) a_0, Ch.ro 0 (Sl ab_1 b_1 cb_1) b_1]) from (H.sel' [2, 3, 0, 1, 2, 3] rfl rfl))) wn ?_
   rintro _ σ25 ⟨_, ⟨a23, c24, rfl, rfl⟩, H, -⟩
   replace H : Hp S0 σ0 σ25 [Ch.own n0 n0 (Sl a23 r20 c24) r20, Ch.bx n0 b17 0 [(.map (some b13))] [] [], Ch.ob 0 b13 O14, Ch.ro 0 (Sl aa_0 a_0 ca_0) a_0, Ch.ro 0 (Sl ab_1 b_1 cb_1) b_1] := H
   refine st (v := (I (r20.length : Int))) (rv_len Try.underlying23 rfl) ?_
   refine st (v := (I 0)) (rv_move rfl) ?_
   refine w_end ?_
   refine q_then ?_
   obtain ⟨o26, hj, h'⟩ := bind_some h
   clear h
   refine c_cut (fun e a w => e = .normal ∧ ∃ (ρ : Nat → Value) (σ : St) (bj1 : Nat) (Oj2 : Obj), a = fr 42 (updL ρ [(5, (pt b17 0))]) ∧ w = σ.w ∧ Hp S0 σ0 σ [Ch.bx n0 b17 0 [(.map (some bj1))] [] [], Ch.ob 0 bj1 Oj2] ∧ MiO Oj2 o26) ?_ ?_
   ·clear h'
    rename _ = some o26 => h
    refine c_blk ?_
    refine wp_loopM _ h (fun s27 a w => ∃ (ρ : Nat → Value) (σ : St) (bj1 : Nat) (Oj2 : Obj), a = fr 42 (updL ρ [(0, (Sl aa_0 a_0 ca_0)), (1, (Sl ab_1 b_1 cb_1)), (5, (pt b17 0)), (19, (Sl a23 r20 c24)), (20, (I (r20.length : Int))), (21, (I s27.2))]) ∧ w = σ.w ∧ Hp S0 σ0 σ [Ch.bx n0 b17 0 [(.map (some bj1))] [] [], Ch.ob 0 bj1 Oj2, Ch.ro 0 (Sl aa_0 a_0 ca_0) a_0, Ch.ro 0 (Sl ab_1 b_1 cb_1) b_1, Ch.own n0 n0 (Sl a23 r20 c24) r20] ∧ MiO Oj2 s27.1) ⟨_, σ25, b13, O14, fr_join ⟨rfl, rfl, rfl, rfl, rfl, rfl, trivial⟩, rfl, H.sel' [1, 2, 3, 4, 0] rfl rfl, hO15⟩ ?_
    clear h H
    rintro s27 a w o ⟨ρ, σ28, b29, O30, rfl, rfl, H, hO31⟩ h hres
    refine c_seq ?_
    refine rg ?_
    refine st (v := (B (decide (s27.2 < (r20.length : Int))))) (rv_lss (a := s27.2) (b := (r20.length : Int)) rfl rfl) ?_
    refine w_end ?_
    refine q_then ?_
    refine c_seq ?_
    refine cd_cond (decide (s27.2 < (r20.length : Int))) rfl (fun hb32 => ?_) (fun hb32 => ?_)
    ·replace h := bif_t hb32 h
     refine c_skip ?_
     refine q_then ?_
     refine c_seq ?_
     refine c_blk ?_
     refine c_seq ?_
     refine rg ?_
     obtain ⟨x33, hx34, h'⟩ := bind_some h
     clear h
     have h := h'; clear h'
     obtain ⟨b36, o37, hi35, -⟩ := (H.own 4 rfl).ix hx34
     refine st (v := (pt b36 o37)) (rv_ix Try.underlying23 ti40 rfl rfl hi35) ?_
     obtain ⟨_, ⟨_, _, rfl, rfl, rfl⟩, hl38, hc39⟩ := ((H.own 4 rfl).at hx34 hi35).cells
     refine st (v := (.agg #[(I x33.1), (I x33.2)])) (rv_load Try.underlying40 rfl ti40 rfl hl38 hc39) ?_
     refine st_ex (ex_alloc (cs := [(I 0), (I 0)]) H hn0 ti40 rfl) wn ?_
     rintro _ σ41 ⟨b40, rfl, H, -⟩
     refine st_exS (ex_store_box (k := 0) (cs := [(I 0), (I 0)]) (vs := [(I x33.1), (I x33.2)]) (cs' := [(I x33.1), (I x33.2)]) H (i := 0) rfl ti40 rfl rfl rfl rfl rfl (Nat.le_of_ble_eq_true rfl) (by simp [plain]) rfl) wn ?_
     rintro σ42 ⟨H, -⟩
     refine w_end ?_
     refine q_then ?_
     have hc43 := H.cell (u := (.map (some b29))) (o' := 0) 1 0 rfl rfl rfl
     have hc44 := H.cell (u := (I x33.1)) (o' := 0) 0 0 rfl rfl rfl
     have hc45 := H.cell (u := (I x33.1)) (o' := 0) 0 0 rfl rfl rfl
     obtain ⟨r46, hx47, h'⟩ := bind_some h
     clear h
     have h := h'; clear h'
     have hc48 := c_impl_RankScore (alist_0 := aa_0) (clist_0 := ca_0) hx47
     have hc49 := H.cell (u := (I x33.1)) (o' := 0) 0 0 rfl rfl rfl
     obtain ⟨r50, hx51, h'⟩ := bind_some h
     clear h
     have h := h'; clear h'
     have hc52 := c_impl_RankScore (alist_0 := ab_1) (clist_0 := cb_1) hx51
     have Hs := H
     refine rg2 (σ := σ42) (Nm := Unit) 12 [6, 10] [[false, false], [true, false], [true, true]] [[(0, 0), (1, 1), (2, 2)], [(0, 0), (1, 1), (2, 2)], [(0, 0), (1, 1), (2, 2)], [(0, 0)], [(0, 0)], [(0, 0)], [(0, 1)], [(0, 0), (1, 1)], [(0, 0), (1, 1)], [(0, 0), (1, 1)], [(1, 2)], [(2, 2)]] 2 [fun _ => fun σm => Hp S0 σ0 σm [Ch.bx n0 b40 0 [(I x33.1), (I x33.2)] [] [], Ch.bx n0 b17 0 [(.map (some b29))] [] [], Ch.ob 0 b29 O30, Ch.ro 0 (Sl aa_0 a_0 ca_0) a_0, Ch.ro 0 (Sl ab_1 b_1 cb_1) b_1, Ch.own n0 n0 (Sl a23 r20 c24) r20] ∧ Md (cov []) σ42 σm, fun _ => fun σm => Hp S0 σ0 σm [Ch.bx n0 b40 0 [(I x33.1), (I x33.2)] [] [], Ch.bx n0 b17 0 [(.map (some b29))] [] [], Ch.ob 0 b29 O30, Ch.ro 0 (Sl aa_0 a_0 ca_0) a_0, Ch.ro 0 (Sl ab_1 b_1 cb_1) b_1, Ch.own n0 n0 (Sl a23 r20 c24) r20] ∧ Md (cov []) σ42 σm, fun _ => fun σm => Hp S0 σ0 σm [Ch.bx n0 b40 0 [(I x33.1), (I x33.2)] [] [], Ch.bx n0 b17 0 [(.map (some b29))] [] [], Ch.ob 0 b29 O30, Ch.ro 0 (Sl aa_0 a_0 ca_0) a_0, Ch.ro 0 (Sl ab_1 b_1 cb_1) b_1, Ch.own n0 n0 (Sl a23 r20 c24) r20] ∧ Md (cov []) σ42 σm] [fun _ => (.map (some b29)), fun _ => (pt b40 0), fun _ => (I x33.1), fun _ => (Sl aa_0 a_0 ca_0), fun _ => (pt b40 0), fun _ => (I x33.1), fun _ => (I r46), fun _ => (Sl ab_1 b_1 cb_1), fun _ => (pt b40 0), fun _ => (I x33.1), fun _ => (I r50), fun _ => (I (w64 (r46 + r50)))] () (by kernel_rfl) (by kernel_rfl) ?_ ?_ ?_
     ·intro σm m0
      exact ⟨H.grow (m0.mono fun _ h => h.elim), m0⟩
     ·refine all_cons (by
        refine ⟨?_, ?_⟩
        ·intro _nm ρ σm hJ hoff hdep
         have e5 := look_off (N := 42) (hoff 5 rfl) rfl
         obtain ⟨H, m⟩ := id hJ
         have hc43 := H.cell (u := (.map (some b29))) (o' := 0) 1 0 rfl rfl rfl
         exact dp_v (v := (.map (some b29))) wn (rv_load1 Try.underlying51 rfl e5 hc43) rfl hJ
        refine ⟨?_, ?_⟩
        ·intro _nm ρ σm hJ hoff hdep
         have e5 := look_off (N := 42) (hoff 5 rfl) rfl
         obtain ⟨H, m⟩ := id hJ
         have hc43 := H.cell (u := (.map (some b29))) (o' := 0) 1 0 rfl rfl rfl
         exact dp_v (v := (.map (some b29))) wn (rv_load1 Try.underlying51 rfl e5 hc43) rfl hJ
        refine ⟨?_, ?_⟩
        ·intro _nm ρ σm hJ hoff hdep
         have e5 := look_off (N := 42) (hoff 5 rfl) rfl
         obtain ⟨H, m⟩ := id hJ
         have hc43 := H.cell (u := (.map (some b29))) (o' := 0) 1 0 rfl rfl rfl
         exact dp_v (v := (.map (some b29))) wn (rv_load1 Try.underlying51 rfl e5 hc43) rfl hJ
        trivial) ?_
      refine ac rfl (by
        intro k _nm ρ σm hJ hoff hdep
        have e7 := look_off (N := 42) (hoff 7 rfl) rfl
        exact dp_v (v := (pt b40 0)) wn (rv_fieldAddr (off := 0) (ft := 3) Try.underlying40 rfl ti3 rfl e7) rfl hJ) ?_
      refine all_cons (by
        refine ⟨?_, ?_⟩
        ·intro _nm ρ σm hJ hoff hdep
         have e26 := hdep 1 rfl rfl 26 rfl
         obtain ⟨H, m⟩ := id hJ
         have hc44 := H.cell (u := (I x33.1)) (o' := 0) 0 0 rfl rfl rfl
         exact dp_v (v := (I x33.1)) wn (rv_load1 Try.underlying3 rfl e26 hc44) rfl hJ
        refine ⟨?_, ?_⟩
        ·intro _nm ρ σm hJ hoff hdep
         have e26 := hdep 1 rfl rfl 26 rfl
         obtain ⟨H, m⟩ := id hJ
         have hc44 := H.cell (u := (I x33.1)) (o' := 0) 0 0 rfl rfl rfl
         exact dp_v (v := (I x33.1)) wn (rv_load1 Try.underlying3 rfl e26 hc44) rfl hJ
        refine ⟨?_, ?_⟩
        ·intro _nm ρ σm hJ hoff hdep
         have e26 := hdep 1 rfl rfl 26 rfl
         obtain ⟨H, m⟩ := id hJ
         have hc44 := H.cell (u := (I x33.1)) (o' := 0) 0 0 rfl rfl rfl
         exact dp_v (v := (I x33.1)) wn (rv_load1 Try.underlying3 rfl e26 hc44) rfl hJ
        trivial) ?_
      refine ac rfl (by
        intro k _nm ρ σm hJ hoff hdep
        have e0 := look_off (N := 42) (hoff 0 rfl) rfl
        exact dp_v (v := (Sl aa_0 a_0 ca_0)) wn (rv_move e0) rfl hJ) ?_
      refine ac rfl (by
        intro k _nm ρ σm hJ hoff hdep
        have e7 := look_off (N := 42) (hoff 7 rfl) rfl
        exact dp_v (v := (pt b40 0)) wn (rv_fieldAddr (off := 0) (ft := 3) Try.underlying40 rfl ti3 rfl e7) rfl hJ) ?_
      refine all_cons (by
        refine ⟨?_, ?_⟩
        ·intro _nm ρ σm hJ hoff hdep
         have e29 := hdep 4 rfl rfl 29 rfl
         obtain ⟨H, m⟩ := id hJ
         have hc45 := H.cell (u := (I x33.1)) (o' := 0) 0 0 rfl rfl rfl
         exact dp_v (v := (I x33.1)) wn (rv_load1 Try.underlying3 rfl e29 hc45) rfl hJ
        trivial) ?_
      refine all_cons (by
        refine ⟨?_, ?_⟩
        ·intro _nm ρ σm hJ hoff hdep
         have e28 : look 42 ρ 28 = (Sl aa_0 a_0 ca_0) := hdep 3 rfl rfl 28 rfl
         have e30 : look 42 ρ 30 = (I x33.1) := hdep 5 rfl rfl 30 rfl
         obtain ⟨H, m⟩ := id hJ
         refine dp_cx wn (cx_call hc48 (ent_f hc48.fn (by show [look 42 ρ 28, look 42 ρ 30] = _; rw [e28, e30])) hn0 (show Hp S0 σ0 _ ([Ch.ro 0 (Sl aa_0 a_0 ca_0) a_0] ++ [Ch.bx n0 b40 0 [(I x33.1), (I x33.2)] [] [], Ch.bx n0 b17 0 [(.map (some b29))] [] [], Ch.ob 0 b29 O30, Ch.ro 0 (Sl aa_0 a_0 ca_0) a_0, Ch.ro 0 (Sl ab_1 b_1 cb_1) b_1, Ch.own n0 n0 (Sl a23 r20 c24) r20]) from (H.sel' [3, 0, 1, 2, 3, 4, 5] rfl rfl))) ?_
         rintro _ σq ⟨_, ⟨rfl, rfl⟩, H2, m2⟩
         exact ⟨_, (), rfl, rfl, ⟨H2.sel' [0, 1, 2, 3, 4, 5] rfl rfl, m.comp0 (m2.mono (fun i h => by simp [cov, Ch.ro] at h))⟩, stab [0, 1, 2, 3, 4, 5, 7, 8, 9] (by kernel_rfl) ⟨rfl, rfl, rfl, rfl, rfl, rfl, rfl, rfl, rfl, trivial⟩⟩
        trivial) ?_
      refine ac rfl (by
        intro k _nm ρ σm hJ hoff hdep
        have e1 := look_off (N := 42) (hoff 1 rfl) rfl
        exact dp_v (v := (Sl ab_1 b_1 cb_1)) wn (rv_move e1) rfl hJ) ?_
      refine ac rfl (by
        intro k _nm ρ σm hJ hoff hdep
        have e7 := look_off (N := 42) (hoff 7 rfl) rfl
        exact dp_v (v := (pt b40 0)) wn (rv_fieldAddr (off := 0) (ft := 3) Try.underlying40 rfl ti3 rfl e7) rfl hJ) ?_
      refine all_cons (by
        refine ⟨?_, ?_⟩
        ·intro _nm ρ σm hJ hoff hdep
         have e33 := hdep 8 rfl rfl 33 rfl
         obtain ⟨H, m⟩ := id hJ
         have hc49 := H.cell (u := (I x33.1)) (o' := 0) 0 0 rfl rfl rfl
         exact dp_v (v := (I x33.1)) wn (rv_load1 Try.underlying3 rfl e33 hc49) rfl hJ
        refine ⟨?_, ?_⟩
        ·intro _nm ρ σm hJ hoff hdep
         have e33 := hdep 8 rfl rfl 33 rfl
         obtain ⟨H, m⟩ := id hJ
         have hc49 := H.cell (u := (I x33.1)) (o' := 0) 0 0 rfl rfl rfl
         exact dp_v (v := (I x33.1)) wn (rv_load1 Try.underlying3 rfl e33 hc49) rfl hJ
        trivial) ?_
      refine all_cons (by
        refine ⟨?_, ?_⟩
        ·intro _nm ρ σm hJ hoff hdep
         have e32 : look 42 ρ 32 = (Sl ab_1 b_1 cb_1) := hdep 7 rfl rfl 32 rfl
         have e34 : look 42 ρ 34 = (I x33.1) := hdep 9 rfl rfl 34 rfl
         obtain ⟨H, m⟩ := id hJ
         refine dp_cx wn (cx_call hc52 (ent_f hc52.fn (by show [look 42 ρ 32, look 42 ρ 34] = _; rw [e32, e34])) hn0 (show Hp S0 σ0 _ ([Ch.ro 0 (Sl ab_1 b_1 cb_1) b_1] ++ [Ch.bx n0 b40 0 [(I x33.1), (I x33.2)] [] [], Ch.bx n0 b17 0 [(.map (some b29))] [] [], Ch.ob 0 b29 O30, Ch.ro 0 (Sl aa_0 a_0 ca_0) a_0, Ch.ro 0 (Sl ab_1 b_1 cb_1) b_1, Ch.own n0 n0 (Sl a23 r20 c24) r20]) from (H.sel' [4, 0, 1, 2, 3, 4, 5] rfl rfl))) ?_
         rintro _ σq ⟨_, ⟨rfl, rfl⟩, H2, m2⟩
         exact ⟨_, (), rfl, rfl, ⟨H2.sel' [0, 1, 2, 3, 4, 5] rfl rfl, m.comp0 (m2.mono (fun i h => by simp [cov, Ch.ro] at h))⟩, stab [0, 1, 2, 3, 4, 5, 6, 7, 8, 9] (by kernel_rfl) ⟨rfl, rfl, rfl, rfl, rfl, rfl, rfl, rfl, rfl, rfl, trivial⟩⟩
        trivial) ?_
      refine ac rfl (by
        intro k _nm ρ σm hJ hoff hdep
        have e31 := hdep 6 rfl rfl 31 rfl
        have e35 := hdep 10 rfl rfl 35 rfl
        exact dp_v (v := (I (w64 (r46 + r50)))) wn (rv_add (a := r46) (b := r50) e31 e35) rfl hJ) ?_
      exact all_nil
     ·intro _nm ρ σ53 hJ hoff hrel
      have e0 := look_off (N := 42) (hoff 0 rfl) rfl
      have e1 := look_off (N := 42) (hoff 1 rfl) rfl
      have e5 := look_off (N := 42) (hoff 5 rfl) rfl
      have e19 := look_off (N := 42) (hoff 19 rfl) rfl
      have e20 := look_off (N := 42) (hoff 20 rfl) rfl
      have e21 := look_off (N := 42) (hoff 21 rfl) rfl
      have e25 := hrel 0 rfl 25 rfl
      have e27 := hrel 2 rfl 27 rfl
      have e36 := hrel 11 rfl 36 rfl
      obtain ⟨H, -⟩ := (show Hp S0 σ0 σ53 [Ch.bx n0 b40 0 [(I x33.1), (I x33.2)] [] [], Ch.bx n0 b17 0 [(.map (some b29))] [] [], Ch.ob 0 b29 O30, Ch.ro 0 (Sl aa_0 a_0 ca_0) a_0, Ch.ro 0 (Sl ab_1 b_1 cb_1) b_1, Ch.own n0 n0 (Sl a23 r20 c24) r20] ∧ Md (cov []) σ42 σ53 from hJ)
      clear hJ Hs
      rw [fr_lookL (L := [(0, (Sl aa_0 a_0 ca_0)), (1, (Sl ab_1 b_1 cb_1)), (5, (pt b17 0)), (19, (Sl a23 r20 c24)), (20, (I (r20.length : Int))), (21, (I s27.2)), (25, (.map (some b29))), (27, (I x33.1)), (36, (I (w64 (r46 + r50))))]) ⟨e0, e1, e5, e19, e20, e21, e25, e27, e36, trivial⟩]
      clear hoff hrel e0 e1 e5 e19 e20 e21 e25 e27 e36
      replace H := H.front (i := 2) rfl
      obtain ⟨O54, hO55, he56⟩ := hO31.put x33.1 (w64 (r46 + r50))
      refine st_exS (he56 (ty := _) H Try.underlying51 Try.underlying3 rfl rfl rfl) wn ?_
      rintro σ57 ⟨H, -⟩
      refine w_end ?_
      refine q_blk ?_
      refine q_then ?_
      refine rg ?_
      refine st (v := (I (w64 (s27.2 + 1)))) (rv_add (a := s27.2) (b := 1) rfl rfl) ?_
      refine st (v := (I (w64 (s27.2 + 1)))) (rv_move rfl) ?_
      refine w_end ?_
      refine q_then ?_
      obtain rfl := Option.some.inj h
      exact ⟨_, rfl, _, σ57, b29, O54, fr_join ⟨rfl, rfl, rfl, rfl, rfl, rfl, trivial⟩, rfl, H.sel' [2, 0, 3, 4, 5] rfl rfl, hO55⟩
    ·replace h := bif_f hb32 h
     refine c_exit ?_
     refine q_then_x ?_
     refine q_then_x ?_
     refine q_blk_hit ?_
     obtain rfl := Option.some.inj h
     obtain rfl := hres _ rfl
     exact ⟨rfl, _, σ28, b29, O30, fr_join ⟨rfl, trivial⟩, rfl, H.sel' [0, 1] rfl rfl, hO31⟩
   ·clear hj
    have h := h'
    clear h' H
    rintro e a w ⟨rfl, ρ, σ58, b59, O60, rfl, rfl, H, hO61⟩
    refine q_then ?_
    refine c_seq ?_
    refine rg ?_
    have hc62 := H.cell (u := (.map (some b59))) (o' := 0) 0 0 rfl rfl rfl
    refine st (v := (.map (some b59))) (rv_load1 Try.underlying51 rfl rfl hc62) ?_
    obtain ⟨r63, hx64, h'⟩ := bind_some h
    clear h
    have h := h'; clear h'
    have hc65 := c_maps_Keys_map_int_int_int_int (mm_0 := b59) (Om_0 := O60) (hOm_0 := hO61) hx64
    refine st_call (cx_call hc65 (ent_f hc65.fn rfl) hn0 (show Hp S0 σ0 _ ([Ch.ob 0 b59 O60] ++ [Ch.bx n0 b17 0 [(.map (some b59))] [] []]) from (H.sel' [1, 0] rfl rfl))) wn ?_
    rintro _ σ67 ⟨_, ⟨b66, rfl, rfl⟩, H, -⟩
    replace H : Hp S0 σ0 σ67 [Ch.bx n0 b66 0 [(.map (some b59))] [] [], Ch.ob 0 b59 O60, Ch.bx n0 b17 0 [(.map (some b59))] [] []] := H
    refine st (v := (.func (.func 38) #[] #[(pt b17 0)])) (rv_makeFunc (vs := [(pt b17 0)]) rfl) ?_
    obtain ⟨r68, hx69, h'⟩ := bind_some h
    clear h
    have h := h'; clear h'
    have hc70 := c_slices_SortedFunc_int__maps_Keys_map_int_int_int_int_1__impl_FuseRanks_1 (loseq_0_0 := n0) (bseq_0_0 := b66) (oseq_0_0 := 0) (preseq_0_0 := []) (sufseq_0_0 := []) (mseq_0_0 := b59) (Oseq_0_0 := O60) (hOseq_0_0 := hO61) (locmp_1_0 := n0) (bcmp_1_0 := b17) (ocmp_1_0 := 0) (precmp_1_0 := []) (sufcmp_1_0 := []) hx69
    refine st_call (cx_call hc70 (ent_f hc70.fn rfl) hn0 (show Hp S0 σ0 _ ([Ch.bx n0 b66 0 [(.map (some b59))] [] [], Ch.ob 0 b59 O60, Ch.bx n0 b17 0 [(.map (some b59))] [] []] ++ []) from (H.sel' [0, 1, 2] rfl rfl))) wn ?_
    rintro _ σ73 ⟨_, ⟨a71, c72, rfl, rfl⟩, H, -⟩
    replace H : Hp S0 σ0 σ73 [Ch.own 0 n0 (Sl a71 r68 c72) r68, Ch.bx n0 b66 0 [(.map (some b59))] [] [], Ch.ob 0 b59 O60, Ch.bx n0 b17 0 [(.map (some b59))] [] []] := H
    refine st (v := (Sl a71 r68 c72)) (rv_assign rfl) ?_
    refine w_end ?_
    refine q_then ?_
    refine c_ret ?_
    obtain rfl := Option.some.inj h
    exact fin_ret (v := (Sl a71 r68 c72)) (results_ok Try.results12 (res_tmp (v := (Sl a71 r68 c72)) rfl res_nil) rfl) ⟨a71, c72, rfl, rfl⟩ (H.sel' [0] rfl rfl)

theorem c_laws_equalInts {a_0 : List Int} {b_1 : List Int} {aa_0 : Option Addr} {ca_0 : Nat} {ab_1 : Option Addr} {cb_1 : Nat} {r : Bool} (h : M.laws_equalInts a_0 b_1 = some r) :
    Cal2 Try.prog 13 [(Sl aa_0 a_0 ca_0), (Sl ab_1 b_1 cb_1)] [Ch.ro 0 (Sl aa_0 a_0 ca_0) a_0, Ch.ro 0 (Sl ab_1 b_1 cb_1) b_1] (fun n0 v L => v = (B r) ∧ L = []) := by
 refine cal2 (n := 26) Try.func13 rfl rfl rfl rfl ?_
 intro S0 σ0 n0 hn0 H
 unfold M.laws_equalInts at h
 refine c_seq ?_
 refine rg ?_
 refine st (v := (B false)) (rv_assign rfl) ?_
 refine w_end ?_
 refine q_then ?_
 refine c_seq ?_
 refine c_seq ?_
 refine rg ?_
 refine st (v := (Sl aa_0 a_0 ca_0)) (rv_move rfl) ?_
 refine st (v := (I (a_0.length : Int))) (rv_len Try.underlying26 rfl) ?_
 refine st (v := (Sl ab_1 b_1 cb_1)) (rv_move rfl) ?_
 refine st (v := (I (b_1.length : Int))) (rv_len Try.underlying26 rfl) ?_
 refine st (v := (B ((a_0.length : Int) != (b_1.length : Int)))) (rv_neq (a := (a_0.length : Int)) (b := (b_1.length : Int)) rfl rfl) ?_
 refine w_end ?_
 refine q_then ?_
 refine cd_cond ((a_0.length : Int) != (b_1.length : Int)) rfl (fun hb1 => ?_) (fun hb1 => ?_)
 ·replace h := bif_t hb1 h
  refine c_seq ?_
  refine rg ?_
  refine st (v := (B false)) (rv_assign rfl) ?_
  refine w_end ?_
  refine q_then ?_
  refine c_ret ?_
  refine q_then_r ?_
  obtain rfl := Option.some.inj h
  exact fin_ret (v := (B false)) (results_ok Try.results13 (res_tmp (v := (B false)) rfl res_nil) rfl) ⟨rfl, rfl⟩ (H.sel' [] rfl rfl)
 ·replace h := bif_f hb1 h
  refine c_skip ?_
  refine q_then ?_
  refine c_seq ?_
  refine c_seq ?_
  refine rg ?_
  refine st (v := (I 0)) (rv_assign rfl) ?_
  refine w_end ?_
  refine q_then ?_
  obtain ⟨o2, hj, h'⟩ := bind_some h
  clear h
  refine c_cut (fun e a w => (∃ t, o2 = (.inl t) ∧ e = .normal ∧ ∃ (ρ : Nat → Value) (σ : St), a = fr 26 (updL ρ []) ∧ w = σ.w ∧ Hp S0 σ0 σ []) ∨ (∃ t, o2 = (.inr t) ∧ e = .ret ∧ ∃ (ρ : Nat → Value) (σ : St), a = fr 26 (updL ρ [(4, (B t))]) ∧ w = σ.w ∧ Hp S0 σ0 σ [])) ?_ ?_
  ·clear h'
   rename _ = some o2 => h
   refine c_blk ?_
   refine wp_loopM _ h (fun s3 a w => ∃ (ρ : Nat → Value) (σ : St), a = fr 26 (updL ρ [(0, (Sl aa_0 a_0 ca_0)), (1, (Sl ab_1 b_1 cb_1)), (5, (I s3))]) ∧ w = σ.w ∧ Hp S0 σ0 σ [Ch.ro 0 (Sl aa_0 a_0 ca_0) a_0, Ch.ro 0 (Sl ab_1 b_1 cb_1) b_1]) ⟨_, σ0, fr_join ⟨rfl, rfl, rfl, trivial⟩, rfl, H.sel' [0, 1] rfl rfl⟩ ?_
   clear h H
   rintro s3 a w o ⟨ρ, σ4, rfl, rfl, H⟩ h hres
   refine c_seq ?_
   refine c_seq ?_
   refine rg ?_
   refine st (v := (I s3)) (rv_move rfl) ?_
   refine st (v := (Sl aa_0 a_0 ca_0)) (rv_move rfl) ?_
   refine st (v := (I (a_0.length : Int))) (rv_len Try.underlying26 rfl) ?_
   refine st (v := (B (decide (s3 < (a_0.length : Int))))) (rv_lss (a := s3) (b := (a_0.length : Int)) rfl rfl) ?_
   refine w_end ?_
   refine q_then ?_
   refine cd_cond (decide (s3 < (a_0.length : Int))) rfl (fun hb5 => ?_) (fun hb5 => ?_)
   ·replace h := bif_t hb5 h
    refine c_skip ?_
    refine q_then ?_
    refine c_seq ?_
    refine c_blk ?_
    refine c_seq ?_
    refine rgP (σ := σ4) 8 (by kernel_rfl) (by kernel_rfl) (by kernel_rfl) ?_
    refine sq (v := (Sl aa_0 a_0 ca_0)) (rv_move rfl) ?_
    refine sq (v := (I s3)) (rv_move rfl) ?_
    obtain ⟨x6, hx7, h'⟩ := bind_some h
    clear h
    have h := h'; clear h'
    obtain ⟨b9, o10, hi8, -⟩ := (H.ro 0 rfl).ix hx7
    refine sq (v := (pt b9 o10)) (rv_ix Try.underlying26 ti3 rfl rfl hi8) ?_
    have hc11 := ((H.ro 0 rfl).at hx7 hi8).int
    refine sq (v := (I x6)) (rv_load1 Try.underlying3 rfl rfl hc11) ?_
    refine sq (v := (Sl ab_1 b_1 cb_1)) (rv_move rfl) ?_
    refine sq (v := (I s3)) (rv_move rfl) ?_
    obtain ⟨x12, hx13, h'⟩ := bind_some h
    clear h
    have h := h'; clear h'
    obtain ⟨b15, o16, hi14, -⟩ := (H.ro 1 rfl).ix hx13
    refine sq (v := (pt b15 o16)) (rv_ix Try.underlying26 ti3 rfl rfl hi14) ?_
    have hc17 := ((H.ro 1 rfl).at hx13 hi14).int
    refine sq (v := (I x12)) (rv_load1 Try.underlying3 rfl rfl hc17) ?_
    refine sq_end ?_
    intro σ18 hm19
    replace H := H.grow (hm19.mono fun _ h => h); clear hm19
    refine st (v := (B (x6 != x12))) (rv_neq (a := x6) (b := x12) rfl rfl) ?_
    refine w_end ?_
    refine q_then ?_
    refine cd_cond (x6 != x12) rfl (fun hb20 => ?_) (fun hb20 => ?_)
    ·replace h := bif_t hb20 h
     refine c_seq ?_
     refine rg ?_
     refine st (v := (B false)) (rv_assign rfl) ?_
     refine w_end ?_
     refine q_then ?_
     refine c_ret ?_
     refine q_blk_r ?_
     refine q_then_r ?_
     refine q_then_r ?_
     refine q_blk_r ?_
     obtain rfl := Option.some.inj h
     obtain rfl := hres _ rfl
     exact .inr (⟨_, rfl, rfl, _, σ18, fr_join ⟨rfl, trivial⟩, rfl, H.sel' [] rfl rfl⟩)
    ·replace h := bif_f hb20 h
     refine c_skip ?_
     refine q_blk ?_
     refine q_then ?_
     refine rg ?_
     refine st (v := (I s3)) (rv_move rfl) ?_
     refine st (v := (I (w64 (s3 + 1)))) (rv_add (a := s3) (b := 1) rfl rfl) ?_
     refine st (v := (I (w64 (s3 + 1)))) (rv_assign rfl) ?_
     refine w_end ?_
     refine q_then ?_
     obtain rfl := Option.some.inj h
     exact ⟨_, rfl, _, σ18, fr_join ⟨rfl, rfl, rfl, trivial⟩, rfl, H.sel' [0, 1] rfl rfl⟩
   ·replace h := bif_f hb5 h
    refine c_exit ?_
    refine q_then_x ?_
    refine q_then_x ?_
    refine q_blk_hit ?_
    obtain rfl := Option.some.inj h
    obtain rfl := hres _ rfl
    exact .inl ⟨_, rfl, rfl, _, σ4, fr_join trivial, rfl, H.sel' [] rfl rfl⟩
  ·clear hj
   have h := h'
   clear h' H
   rintro e a w (⟨t21, rfl, rfl, ρ, σ22, rfl, rfl, H⟩ | ⟨t23, rfl, rfl, ρ, σ24, rfl, rfl, H⟩)
   ·replace h := selim_l h
    refine q_then ?_
    refine c_seq ?_
    refine rg ?_
    refine st (v := (B true)) (rv_assign rfl) ?_
    refine w_end ?_
    refine q_then ?_
    refine c_ret ?_
    obtain rfl := Option.some.inj h
    exact fin_ret (v := (B true)) (results_ok Try.results13 (res_tmp (v := (B true)) rfl res_nil) rfl) ⟨rfl, rfl⟩ (H.sel' [] rfl rfl)
   ·replace h := selim_r h
    refine q_then_r ?_
    obtain rfl := Option.some.inj h
    exact fin_ret (v := (B t23)) (results_ok Try.results13 (res_tmp (v := (B t23)) rfl res_nil) rfl) ⟨rfl, rfl⟩ (H.sel' [] rfl rfl)

theorem c_spec_validHits {list_0 : List (Int × Int)} {alist_0 : Option Addr} {clist_0 : Nat} {r : Bool} (h : M.spec_validHits list_0 = some r) :
    Cal2 Try.prog 41 [(Sl alist_0 list_0 clist_0)] [Ch.ro 0 (Sl alist_0 list_0 clist_0) list_0] (fun n0 v L => v = (B r) ∧ L = []) := by
 refine cal2 (n := 63) Try.func41 rfl rfl rfl rfl ?_
 intro S0 σ0 n0 hn0 H
 unfold M.spec_validHits at h
 refine c_seq ?_
 refine rg ?_
 refine st (v := (B false)) (rv_assign rfl) ?_
 refine w_end ?_
 refine q_then ?_
 refine c_seq ?_
 refine c_seq ?_
 refine rg ?_
 refine st (v := (I 0)) (rv_assign rfl) ?_
 refine w_end ?_
 refine q_then ?_
 obtain ⟨o1, hj, h'⟩ := bind_some h
 clear h
 refine c_cut (fun e a w => (∃ t, o1 = (.inl t) ∧ e = .normal ∧ ∃ (ρ : Nat → Value) (σ : St), a = fr 63 (updL ρ [(0, (Sl alist_0 list_0 clist_0))]) ∧ w = σ.w ∧ Hp S0 σ0 σ [Ch.ro 0 (Sl alist_0 list_0 clist_0) list_0]) ∨ (∃ t, o1 = (.inr t) ∧ e = .ret ∧ ∃ (ρ : Nat → Value) (σ : St), a = fr 63 (updL ρ [(2, (B t))]) ∧ w = σ.w ∧ Hp S0 σ0 σ [])) ?_ ?_
 ·clear h'
  rename _ = some o1 => h
  refine c_blk ?_
  refine wp_loopM _ h (fun s2 a w => ∃ (ρ : Nat → Value) (σ : St), a = fr 63 (updL ρ [(0, (Sl alist_0 list_0 clist_0)), (3, (I s2))]) ∧ w = σ.w ∧ Hp S0 σ0 σ [Ch.ro 0 (Sl alist_0 list_0 clist_0) list_0]) ⟨_, σ0, fr_join ⟨rfl, rfl, trivial⟩, rfl, H.sel' [0] rfl rfl⟩ ?_
  clear h H
  rintro s2 a w o ⟨ρ, σ3, rfl, rfl, H⟩ h hres
  refine c_seq ?_
  refine c_seq ?_
  refine rg ?_
  refine st (v := (I s2)) (rv_move rfl) ?_
  refine st (v := (Sl alist_0 list_0 clist_0)) (rv_move rfl) ?_
  refine st (v := (I (list_0.length : Int))) (rv_len Try.underlying23 rfl) ?_
  refine st (v := (B (decide (s2 < (list_0.length : Int))))) (rv_lss (a := s2) (b := (list_0.length : Int)) rfl rfl) ?_
  refine w_end ?_
  refine q_then ?_
  refine cd_cond (decide (s2 < (list_0.length : Int))) rfl (fun hb4 => ?_) (fun hb4 => ?_)
  ·replace h := bif_t hb4 h
   refine c_skip ?_
   refine q_then ?_
   refine c_seq ?_
   refine c_blk ?_
   refine c_seq ?_
   refine c_seq ?_
   obtain ⟨o5, hj, h'⟩ := bind_some h
   clear h
   refine c_cut (fun e a w => e = .normal ∧ ∃ (ρ : Nat → Value) (σ : St), a = fr 63 (updL ρ [(0, (Sl alist_0 list_0 clist_0)), (3, (I s2)), (43, (B o5))]) ∧ w = σ.w ∧ Hp S0 σ0 σ [Ch.ro 0 (Sl alist_0 list_0 clist_0) list_0]) ?_ ?_
   ·clear h'
    rename _ = some o5 => h
    obtain ⟨x6, hx7, h'⟩ := bind_some h
    clear h
    have h := h'; clear h'
    obtain ⟨b9, o10, hi8, -⟩ := (H.ro 0 rfl).ix hx7
    have hc11 := ((H.ro 0 rfl).at hx7 hi8).fst.int
    obtain ⟨r12, hx13, h'⟩ := bind_some h
    clear h
    have h := h'; clear h'
    have hc14 := c_spec_inRange hx13
    rcases Bool.eq_false_or_eq_true (!r12) with hb15 | hb15
    ·replace h := bif_t hb15 h
     have Hs := H
     refine rg2 (σ := σ3) (Nm := Unit) 29 [5] [[false], [true]] [[(0, 0)], [(0, 0)], [(0, 0)], [(0, 0)], [(0, 0)], [(0, 1)], [(1, 1)], [(1, 1)], [(1, 1)], [(1, 1)], [(1, 1)], [(1, 1)], [(1, 1)], [(1, 1)], [(1, 1)], [(1, 1)], [(1, 1)], [(1, 1)], [(1, 1)], [(1, 1)], [(1, 1)], [(1, 1)], [(1, 1)], [(1, 1)], [(1, 1)], [(1, 1)], [(1, 1)], [(1, 1)], [(1, 1)]] 1 [fun _ => fun σm => Hp S0 σ0 σm [Ch.ro 0 (Sl alist_0 list_0 clist_0) list_0] ∧ Md (cov []) σ3 σm, fun _ => fun σm => Hp S0 σ0 σm [Ch.ro 0 (Sl alist_0 list_0 clist_0) list_0] ∧ Md (cov []) σ3 σm] [fun _ => (Sl alist_0 list_0 clist_0), fun _ => (I s2), fun _ => (pt b9 o10), fun _ => (pt b9 (o10 + 0)), fun _ => (I x6.1), fun _ => (B r12), fun _ => (B (!r12)), fun _ => (B (!r12)), fun _ => undef, fun _ => undef, fun _ => undef, fun _ => undef, fun _ => undef, fun _ => undef, fun _ => undef, fun _ => (B true), fun _ => (B true), fun _ => undef, fun _ => undef, fun _ => undef, fun _ => undef, fun _ => undef, fun _ => undef, fun _ => undef, fun _ => undef, fun _ => undef, fun _ => undef, fun _ => undef, fun _ => undef] () (by kernel_rfl) (by kernel_rfl) ?_ ?_ ?_
     ·intro σm m0
      exact ⟨H.grow (m0.mono fun _ h => h.elim), m0⟩
     ·refine ac rfl (by
        intro k _nm ρ σm hJ hoff hdep
        have e0 := look_off (N := 63) (hoff 0 rfl) rfl
        exact dp_v (v := (Sl alist_0 list_0 clist_0)) wn (rv_move e0) rfl hJ) ?_
      refine ac rfl (by
        intro k _nm ρ σm hJ hoff hdep
        have e3 := look_off (N := 63) (hoff 3 rfl) rfl
        exact dp_v (v := (I s2)) wn (rv_move e3) rfl hJ) ?_
      refine ac rfl (by
        intro k _nm ρ σm hJ hoff hdep
        have e11 := hdep 0 rfl rfl 11 rfl
        have e12 := hdep 1 rfl rfl 12 rfl
        exact dp_v (v := (pt b9 o10)) wn (rv_ix Try.underlying23 ti40 e11 e12 hi8) rfl hJ) ?_
      refine ac rfl (by
        intro k _nm ρ σm hJ hoff hdep
        have e13 := hdep 2 rfl rfl 13 rfl
        exact dp_v (v := (pt b9 (o10 + 0))) wn (rv_fieldAddr (off := 0) (ft := 3) Try.underlying40 rfl ti3 rfl e13) rfl hJ) ?_
      refine all_cons (by
        refine ⟨?_, ?_⟩
        ·intro _nm ρ σm hJ hoff hdep
         have e14 := hdep 3 rfl rfl 14 rfl
         obtain ⟨H, m⟩ := id hJ
         replace hc11 := (Hs.ro 0 rfl).hmd hx7 hi8 (k := 0) (by decide) hc11 m
         exact dp_v (v := (I x6.1)) wn (rv_load1 Try.underlying3 rfl e14 hc11) rfl hJ
        trivial) ?_
      refine all_cons (by
        refine ⟨?_, ?_⟩
        ·intro _nm ρ σm hJ hoff hdep
         have e15 : look 63 ρ 15 = (I x6.1) := hdep 4 rfl rfl 15 rfl
         obtain ⟨H, m⟩ := id hJ
         refine dp_cx wn (cx_call hc14 (ent_f hc14.fn (by show [look 63 ρ 15, (I 1), (I 99)] = _; rw [e15])) hn0 (show Hp S0 σ0 _ ([] ++ [Ch.ro 0 (Sl alist_0 list_0 clist_0) list_0]) from (H.sel' [0] rfl rfl))) ?_
         rintro _ σq ⟨_, ⟨rfl, rfl⟩, H2, m2⟩
         exact ⟨_, (), rfl, rfl, ⟨H2.sel' [0] rfl rfl, m.comp0 m2⟩, stab [0, 1, 2, 3, 4] (by kernel_rfl) ⟨rfl, rfl, rfl, rfl, rfl, trivial⟩⟩
        trivial) ?_
      refine ac rfl (by
        intro k _nm ρ σm hJ hoff hdep
        have e16 := hdep 5 rfl rfl 16 rfl
        exact dp_v (v := (B (!r12))) wn (rv_not e16) rfl hJ) ?_
      refine ac rfl (by
        intro k _nm ρ σm hJ hoff hdep
        have e17 := hdep 6 rfl rfl 17 rfl
        exact dp_v (v := (B (!r12))) wn (rv_move e17) rfl hJ) ?_
      refine ac rfl (by
        intro k _nm ρ σm hJ hoff hdep
        have e18 := hdep 7 rfl rfl 18 rfl
        exact dp_skip (wanted_no rfl (yv_of rfl (e18.trans (congrArg B hb15)))) rfl hJ) ?_
      refine ac rfl (by
        intro k _nm ρ σm hJ hoff hdep
        have e18 := hdep 7 rfl rfl 18 rfl
        exact dp_skip (wanted_no rfl (yv_of rfl (e18.trans (congrArg B hb15)))) rfl hJ) ?_
      refine ac rfl (by
        intro k _nm ρ σm hJ hoff hdep
        have e18 := hdep 7 rfl rfl 18 rfl
        exact dp_skip (wanted_no rfl (yv_of rfl (e18.trans (congrArg B hb15)))) rfl hJ) ?_
      refine ac rfl (by
        intro k _nm ρ σm hJ hoff hdep
        have e18 := hdep 7 rfl rfl 18 rfl
        exact dp_skip (wanted_no rfl (yv_of rfl (e18.trans (congrArg B hb15)))) rfl hJ) ?_
      refine ac rfl (by
        intro k _nm ρ σm hJ hoff hdep
        have e18 := hdep 7 rfl rfl 18 rfl
        exact dp_skip (wanted_no rfl (yv_of rfl (e18.trans (congrArg B hb15)))) rfl hJ) ?_
      refine ac rfl (by
        intro k _nm ρ σm hJ hoff hdep
        have e18 := hdep 7 rfl rfl 18 rfl
        exact dp_skip (wanted_no rfl (yv_of rfl (e18.trans (congrArg B hb15)))) rfl hJ) ?_
      refine ac rfl (by
        intro k _nm ρ σm hJ hoff hdep
        have e18 := hdep 7 rfl rfl 18 rfl
        exact dp_skip (wanted_no rfl (yv_of rfl (e18.trans (congrArg B hb15)))) rfl hJ) ?_
      refine ac rfl (by
        intro k _nm ρ σm hJ hoff hdep
        have e18 := hdep 7 rfl rfl 18 rfl
        exact dp_v (v := (B true)) wn (rv_pick_t (e18.trans (congrArg B hb15)) rfl) rfl hJ) ?_
      refine ac rfl (by
        intro k _nm ρ σm hJ hoff hdep
        have e26 := hdep 15 rfl rfl 26 rfl
        exact dp_v (v := (B true)) wn (rv_move e26) rfl hJ) ?_
      refine ac rfl (by
        intro k _nm ρ σm hJ hoff hdep
        have e27 := hdep 16 rfl rfl 27 rfl
        exact dp_skip (wanted_no rfl (yv_of rfl e27)) rfl hJ) ?_
      refine ac rfl (by
        intro k _nm ρ σm hJ hoff hdep
        have e27 := hdep 16 rfl rfl 27 rfl
        exact dp_skip (wanted_no rfl (yv_of rfl e27)) rfl hJ) ?_
      refine ac rfl (by
        intro k _nm ρ σm hJ hoff hdep
        have e27 := hdep 16 rfl rfl 27 rfl
        exact dp_skip (wanted_no rfl (yv_of rfl e27)) rfl hJ) ?_
      refine ac rfl (by
        intro k _nm ρ σm hJ hoff hdep
        have e30 := hdep 19 rfl rfl 30 rfl
        exact dp_skip (wanted_u rfl (yv_undef rfl e30)) rfl hJ) ?_
      refine ac rfl (by
        intro k _nm ρ σm hJ hoff hdep
        have e30 := hdep 19 rfl rfl 30 rfl
        exact dp_skip (wanted_u rfl (yv_undef rfl e30)) rfl hJ) ?_
      refine ac rfl (by
        intro k _nm ρ σm hJ hoff hdep
        have e30 := hdep 19 rfl rfl 30 rfl
        exact dp_skip (wanted_u rfl (yv_undef rfl e30)) rfl hJ) ?_
      refine ac rfl (by
        intro k _nm ρ σm hJ hoff hdep
        have e30 := hdep 19 rfl rfl 30 rfl
        exact dp_skip (wanted_u rfl (yv_undef rfl e30)) rfl hJ) ?_
      refine ac rfl (by
        intro k _nm ρ σm hJ hoff hdep
        have e30 := hdep 19 rfl rfl 30 rfl
        exact dp_skip (wanted_u rfl (yv_undef rfl e30)) rfl hJ) ?_
      refine ac rfl (by
        intro k _nm ρ σm hJ hoff hdep
        have e30 := hdep 19 rfl rfl 30 rfl
        exact dp_skip (wanted_u rfl (yv_undef rfl e30)) rfl hJ) ?_
      refine ac rfl (by
        intro k _nm ρ σm hJ hoff hdep
        have e30 := hdep 19 rfl rfl 30 rfl
        exact dp_skip (wanted_u rfl (yv_undef rfl e30)) rfl hJ) ?_
      refine ac rfl (by
        intro k _nm ρ σm hJ hoff hdep
        have e30 := hdep 19 rfl rfl 30 rfl
        exact dp_skip (wanted_u rfl (yv_undef rfl e30)) rfl hJ) ?_
      refine ac rfl (by
        intro k _nm ρ σm hJ hoff hdep
        have e30 := hdep 19 rfl rfl 30 rfl
        exact dp_skip (wanted_u rfl (yv_undef rfl e30)) rfl hJ) ?_
      exact all_nil
     ·intro _nm ρ σ16 hJ hoff hrel
      have e0 := look_off (N := 63) (hoff 0 rfl) rfl
      have e3 := look_off (N := 63) (hoff 3 rfl) rfl
      have e27 := hrel 16 rfl 27 rfl
      have e30 := hrel 19 rfl 30 rfl
      have e35 := hrel 24 rfl 35 rfl
      have e39 := hrel 28 rfl 39 rfl
      obtain ⟨H, -⟩ := (show Hp S0 σ0 σ16 [Ch.ro 0 (Sl alist_0 list_0 clist_0) list_0] ∧ Md (cov []) σ3 σ16 from hJ)
      clear hJ Hs
      rw [fr_lookL (L := [(0, (Sl alist_0 list_0 clist_0)), (3, (I s2)), (27, (B true)), (30, undef), (35, undef), (39, undef)]) ⟨e0, e3, e27, e30, e35, e39, trivial⟩]
      clear hoff hrel e0 e3 e27 e30 e35 e39
      refine st_skip_u rfl ?_
      refine st_skip_u rfl ?_
      refine st_skip rfl ?_
      refine st (v := (B true)) (rv_pick_t rfl rfl) ?_
      refine w_end ?_
      obtain rfl := Option.some.inj h
      exact ⟨rfl, _, σ16, fr_join ⟨rfl, rfl, rfl, trivial⟩, rfl, H.sel' [0] rfl rfl⟩
    ·replace h := bif_f hb15 h
     obtain ⟨x17, hx18, h'⟩ := bind_some h
     clear h
     have h := h'; clear h'
     obtain ⟨b20, o21, hi19, -⟩ := (H.ro 0 rfl).ix hx18
     have hc22 := ((H.ro 0 rfl).at hx18 hi19).snd.int
     obtain ⟨r23, hx24, h'⟩ := bind_some h
     clear h
     have h := h'; clear h'
     have hc25 := c_spec_inRange hx24
     rcases Bool.eq_false_or_eq_true (!r23) with hb26 | hb26
     ·replace h := bif_t hb26 h
      have Hs := H
      refine rg2 (σ := σ3) (Nm := Unit) 29 [5, 13] [[false, false], [true, false], [true, true]] [[(0, 0)], [(0, 0)], [(0, 0)], [(0, 0)], [(0, 0)], [(0, 1)], [(1, 1)], [(1, 1)], [(1, 1)], [(1, 1)], [(1, 1)], [(1, 1)], [(1, 1)], [(1, 2)], [(2, 2)], [(2, 2)], [(2, 2)], [(2, 2)], [(2, 2)], [(2, 2)], [(2, 2)], [(2, 2)], [(2, 2)], [(2, 2)], [(2, 2)], [(2, 2)], [(2, 2)], [(2, 2)], [(2, 2)]] 2 [fun _ => fun σm => Hp S0 σ0 σm [Ch.ro 0 (Sl alist_0 list_0 clist_0) list_0] ∧ Md (cov []) σ3 σm, fun _ => fun σm => Hp S0 σ0 σm [Ch.ro 0 (Sl alist_0 list_0 clist_0) list_0] ∧ Md (cov []) σ3 σm, fun _ => fun σm => Hp S0 σ0 σm [Ch.ro 0 (Sl alist_0 list_0 clist_0) list_0] ∧ Md (cov []) σ3 σm] [fun _ => (Sl alist_0 list_0 clist_0), fun _ => (I s2), fun _ => (pt b9 o10), fun _ => (pt b9 (o10 + 0)), fun _ => (I x6.1), fun _ => (B r12), fun _ => (B (!r12)), fun _ => (B (!r12)), fun _ => (Sl alist_0 list_0 clist_0), fun _ => (I s2), fun _ => (pt b20 o21), fun _ => (pt b20 (o21 + 1)), fun _ => (I x17.2), fun _ => (B r23), fun _ => (B (!r23)), fun _ => (B (!r23)), fun _ => (B (!r23)), fun _ => undef, fun _ => undef, fun _ => undef, fun _ => undef, fun _ => undef, fun _ => undef, fun _ => undef, fun _ => undef, fun _ => undef, fun _ => undef, fun _ => undef, fun _ => undef] () (by kernel_rfl) (by kernel_rfl) ?_ ?_ ?_
      ·intro σm m0
       exact ⟨H.grow (m0.mono fun _ h => h.elim), m0⟩
      ·refine ac rfl (by
         intro k _nm ρ σm hJ hoff hdep
         have e0 := look_off (N := 63) (hoff 0 rfl) rfl
         exact dp_v (v := (Sl alist_0 list_0 clist_0)) wn (rv_move e0) rfl hJ) ?_
       refine ac rfl (by
         intro k _nm ρ σm hJ hoff hdep
         have e3 := look_off (N := 63) (hoff 3 rfl) rfl
         exact dp_v (v := (I s2)) wn (rv_move e3) rfl hJ) ?_
       refine ac rfl (by
         intro k _nm ρ σm hJ hoff hdep
         have e11 := hdep 0 rfl rfl 11 rfl
         have e12 := hdep 1 rfl rfl 12 rfl
         exact dp_v (v := (pt b9 o10)) wn (rv_ix Try.underlying23 ti40 e11 e12 hi8) rfl hJ) ?_
       refine ac rfl (by
         intro k _nm ρ σm hJ hoff hdep
         have e13 := hdep 2 rfl rfl 13 rfl
         exact dp_v (v := (pt b9 (o10 + 0))) wn (rv_fieldAddr (off := 0) (ft := 3) Try.underlying40 rfl ti3 rfl e13) rfl hJ) ?_
       refine all_cons (by
         refine ⟨?_, ?_⟩
         ·intro _nm ρ σm hJ hoff hdep
          have e14 := hdep 3 rfl rfl 14 rfl
          obtain ⟨H, m⟩ := id hJ
          replace hc11 := (Hs.ro 0 rfl).hmd hx7 hi8 (k := 0) (by decide) hc11 m
          exact dp_v (v := (I x6.1)) wn (rv_load1 Try.underlying3 rfl e14 hc11) rfl hJ
         trivial) ?_
       refine all_cons (by
         refine ⟨?_, ?_⟩
         ·intro _nm ρ σm hJ hoff hdep
          have e15 : look 63 ρ 15 = (I x6.1) := hdep 4 rfl rfl 15 rfl
          obtain ⟨H, m⟩ := id hJ
          refine dp_cx wn (cx_call hc14 (ent_f hc14.fn (by show [look 63 ρ 15, (I 1), (I 99)] = _; rw [e15])) hn0 (show Hp S0 σ0 _ ([] ++ [Ch.ro 0 (Sl alist_0 list_0 clist_0) list_0]) from (H.sel' [0] rfl rfl))) ?_
          rintro _ σq ⟨_, ⟨rfl, rfl⟩, H2, m2⟩
          exact ⟨_, (), rfl, rfl, ⟨H2.sel' [0] rfl rfl, m.comp0 m2⟩, stab [0, 1, 2, 3, 4] (by kernel_rfl) ⟨rfl, rfl, rfl, rfl, rfl, trivial⟩⟩
         trivial) ?_
       refine ac rfl (by
         intro k _nm ρ σm hJ hoff hdep
         have e16 := hdep 5 rfl rfl 16 rfl
         exact dp_v (v := (B (!r12))) wn (rv_not e16) rfl hJ) ?_
       refine ac rfl (by
         intro k _nm ρ σm hJ hoff hdep
         have e17 := hdep 6 rfl rfl 17 rfl
         exact dp_v (v := (B (!r12))) wn (rv_move e17) rfl hJ) ?_
       refine ac rfl (by
         intro k _nm ρ σm hJ hoff hdep
         have e0 := look_off (N := 63) (hoff 0 rfl) rfl
         have e18 := hdep 7 rfl rfl 18 rfl
         exact dp_v (v := (Sl alist_0 list_0 clist_0)) (wanted_yes rfl (yv_of rfl (e18.trans (congrArg B hb15)))) (rv_move e0) rfl hJ) ?_
       refine ac rfl (by
         intro k _nm ρ σm hJ hoff hdep
         have e3 := look_off (N := 63) (hoff 3 rfl) rfl
         have e18 := hdep 7 rfl rfl 18 rfl
         exact dp_v (v := (I s2)) (wanted_yes rfl (yv_of rfl (e18.trans (congrArg B hb15)))) (rv_move e3) rfl hJ) ?_
       refine ac rfl (by
         intro k _nm ρ σm hJ hoff hdep
         have e19 := hdep 8 rfl rfl 19 rfl
         have e20 := hdep 9 rfl rfl 20 rfl
         have e18 := hdep 7 rfl rfl 18 rfl
         exact dp_v (v := (pt b20 o21)) (wanted_yes rfl (yv_of rfl (e18.trans (congrArg B hb15)))) (rv_ix Try.underlying23 ti40 e19 e20 hi19) rfl hJ) ?_
       refine ac rfl (by
         intro k _nm ρ σm hJ hoff hdep
         have e21 := hdep 10 rfl rfl 21 rfl
         have e18 := hdep 7 rfl rfl 18 rfl
         exact dp_v (v := (pt b20 (o21 + 1))) (wanted_yes rfl (yv_of rfl (e18.trans (congrArg B hb15)))) (rv_fieldAddr (off := 1) (ft := 3) Try.underlying40 rfl ti3 rfl e21) rfl hJ) ?_
       refine all_cons (by
         refine ⟨?_, ?_⟩
         ·intro _nm ρ σm hJ hoff hdep
          have e22 := hdep 11 rfl rfl 22 rfl
          have e18 := hdep 7 rfl rfl 18 rfl
          obtain ⟨H, m⟩ := id hJ
          replace hc22 := (Hs.ro 0 rfl).hmd hx18 hi19 (k := 1) (by decide) hc22 m
          exact dp_v (v := (I x17.2)) (wanted_yes rfl (yv_of rfl (e18.trans (congrArg B hb15)))) (rv_load1 Try.underlying3 rfl e22 hc22) rfl hJ
         trivial) ?_
       refine all_cons (by
         refine ⟨?_, ?_⟩
         ·intro _nm ρ σm hJ hoff hdep
          have e23 : look 63 ρ 23 = (I x17.2) := hdep 12 rfl rfl 23 rfl
          have e18 := hdep 7 rfl rfl 18 rfl
          obtain ⟨H, m⟩ := id hJ
          refine dp_cx (wanted_yes rfl (yv_of rfl (e18.trans (congrArg B hb15)))) (cx_call hc25 (ent_f hc25.fn (by show [look 63 ρ 23, (I 0), (I 1000000)] = _; rw [e23])) hn0 (show Hp S0 σ0 _ ([] ++ [Ch.ro 0 (Sl alist_0 list_0 clist_0) list_0]) from (H.sel' [0] rfl rfl))) ?_
          rintro _ σq ⟨_, ⟨rfl, rfl⟩, H2, m2⟩
          exact ⟨_, (), rfl, rfl, ⟨H2.sel' [0] rfl rfl, m.comp0 m2⟩, stab [0, 1, 2, 3, 4, 5, 6, 7, 8, 9, 10, 11, 12] (by kernel_rfl) ⟨rfl, rfl, rfl, rfl, rfl, rfl, rfl, rfl, rfl, rfl, rfl, rfl, rfl, trivial⟩⟩
         trivial) ?_
       refine ac rfl (by
         intro k _nm ρ σm hJ hoff hdep
         have e24 := hdep 13 rfl rfl 24 rfl
         have e18 := hdep 7 rfl rfl 18 rfl
         exact dp_v (v := (B (!r23))) (wanted_yes rfl (yv_of rfl (e18.trans (congrArg B hb15)))) (rv_not e24) rfl hJ) ?_
       refine ac rfl (by
         intro k _nm ρ σm hJ hoff hdep
         have e18 := hdep 7 rfl rfl 18 rfl
         have e25 := hdep 14 rfl rfl 25 rfl
         exact dp_v (v := (B (!r23))) wn (rv_pick_f (e18.trans (congrArg B hb15)) e25) rfl hJ) ?_
       refine ac rfl (by
         intro k _nm ρ σm hJ hoff hdep
         have e26 := hdep 15 rfl rfl 26 rfl
         exact dp_v (v := (B (!r23))) wn (rv_move e26) rfl hJ) ?_
       refine ac rfl (by
         intro k _nm ρ σm hJ hoff hdep
         have e27 := hdep 16 rfl rfl 27 rfl
         exact dp_skip (wanted_no rfl (yv_of rfl (e27.trans (congrArg B hb26)))) rfl hJ) ?_
       refine ac rfl (by
         intro k _nm ρ σm hJ hoff hdep
         have e27 := hdep 16 rfl rfl 27 rfl
         exact dp_skip (wanted_no rfl (yv_of rfl (e27.trans (congrArg B hb26)))) rfl hJ) ?_
       refine ac rfl (by
         intro k _nm ρ σm hJ hoff hdep
         have e27 := hdep 16 rfl rfl 27 rfl
         exact dp_skip (wanted_no rfl (yv_of rfl (e27.trans (congrArg B hb26)))) rfl hJ) ?_
       refine ac rfl (by
         intro k _nm ρ σm hJ hoff hdep
         have e30 := hdep 19 rfl rfl 30 rfl
         exact dp_skip (wanted_u rfl (yv_undef rfl e30)) rfl hJ) ?_
       refine ac rfl (by
         intro k _nm ρ σm hJ hoff hdep
         have e30 := hdep 19 rfl rfl 30 rfl
         exact dp_skip (wanted_u rfl (yv_undef rfl e30)) rfl hJ) ?_
       refine ac rfl (by
         intro k _nm ρ σm hJ hoff hdep
         have e30 := hdep 19 rfl rfl 30 rfl
         exact dp_skip (wanted_u rfl (yv_undef rfl e30)) rfl hJ) ?_
       refine ac rfl (by
         intro k _nm ρ σm hJ hoff hdep
         have e30 := hdep 19 rfl rfl 30 rfl
         exact dp_skip (wanted_u rfl (yv_undef rfl e30)) rfl hJ) ?_
       refine ac rfl (by
         intro k _nm ρ σm hJ hoff hdep
         have e30 := hdep 19 rfl rfl 30 rfl
         exact dp_skip (wanted_u rfl (yv_undef rfl e30)) rfl hJ) ?_
       refine ac rfl (by
         intro k _nm ρ σm hJ hoff hdep
         have e30 := hdep 19 rfl rfl 30 rfl
         exact dp_skip (wanted_u rfl (yv_undef rfl e30)) rfl hJ) ?_
       refine ac rfl (by
         intro k _nm ρ σm hJ hoff hdep
         have e30 := hdep 19 rfl rfl 30 rfl
         exact dp_skip (wanted_u rfl (yv_undef rfl e30)) rfl hJ) ?_
       refine ac rfl (by
         intro k _nm ρ σm hJ hoff hdep
         have e30 := hdep 19 rfl rfl 30 rfl
         exact dp_skip (wanted_u rfl (yv_undef rfl e30)) rfl hJ) ?_
       refine ac rfl (by
         intro k _nm ρ σm hJ hoff hdep
         have e30 := hdep 19 rfl rfl 30 rfl
         exact dp_skip (wanted_u rfl (yv_undef rfl e30)) rfl hJ) ?_
       exact all_nil
      ·intro _nm ρ σ27 hJ hoff hrel
       have e0 := look_off (N := 63) (hoff 0 rfl) rfl
       have e3 := look_off (N := 63) (hoff 3 rfl) rfl
       have e27 := hrel 16 rfl 27 rfl
       have e30 := hrel 19 rfl 30 rfl
       have e35 := hrel 24 rfl 35 rfl
       have e39 := hrel 28 rfl 39 rfl
       obtain ⟨H, -⟩ := (show Hp S0 σ0 σ27 [Ch.ro 0 (Sl alist_0 list_0 clist_0) list_0] ∧ Md (cov []) σ3 σ27 from hJ)
       clear hJ Hs
       rw [fr_lookL (L := [(0, (Sl alist_0 list_0 clist_0)), (3, (I s2)), (27, (B (!r23))), (30, undef), (35, undef), (39, undef)]) ⟨e0, e3, e27, e30, e35, e39, trivial⟩]
       clear hoff hrel e0 e3 e27 e30 e35 e39
       refine st_skip_u rfl ?_
       refine st_skip_u rfl ?_
       refine st_skip (congrArg some hb26) ?_
       refine st (v := (B true)) (rv_pick_t (congrArg B hb26) rfl) ?_
       refine w_end ?_
       obtain rfl := Option.some.inj h
       exact ⟨rfl, _, σ27, fr_join ⟨rfl, rfl, rfl, trivial⟩, rfl, H.sel' [0] rfl rfl⟩
     ·replace h := bif_f hb26 h
      rcases Bool.eq_false_or_eq_true (decide (0 < s2)) with hb28 | hb28
      ·replace h := bif_t hb28 h
       obtain ⟨x29, hx30, h'⟩ := bind_some h
       clear h
       have h := h'; clear h'
       obtain ⟨b32, o33, hi31, -⟩ := (H.ro 0 rfl).ix hx30
       obtain ⟨_, ⟨_, _, rfl, rfl, rfl⟩, hl34, hc35⟩ := ((H.ro 0 rfl).at hx30 hi31).cells
       obtain ⟨x36, hx37, h'⟩ := bind_some h
       clear h
       have h := h'; clear h'
       obtain ⟨b39, o40, hi38, -⟩ := (H.ro 0 rfl).ix hx37
       obtain ⟨_, ⟨_, _, rfl, rfl, rfl⟩, hl41, hc42⟩ := ((H.ro 0 rfl).at hx37 hi38).cells
       have Hs := H
       refine rg2 (σ := σ3) (Nm := Unit) 29 [5, 13] [[false, false], [true, false], [true, true]] [[(0, 0)], [(0, 0)], [(0, 0)], [(0, 0)], [(0, 0)], [(0, 1)], [(1, 1)], [(1, 1)], [(1, 1)], [(1, 1)], [(1, 1)], [(1, 1)], [(1, 1)], [(1, 2)], [(2, 2)], [(2, 2)], [(2, 2)], [(2, 2)], [(2, 2)], [(2, 2)], [(2, 2)], [(2, 2)], [(2, 2)], [(2, 2)], [(2, 2)], [(2, 2)], [(2, 2)], [(2, 2)], [(2, 2)]] 2 [fun _ => fun σm => Hp S0 σ0 σm [Ch.ro 0 (Sl alist_0 list_0 clist_0) list_0] ∧ Md (cov []) σ3 σm, fun _ => fun σm => Hp S0 σ0 σm [Ch.ro 0 (Sl alist_0 list_0 clist_0) list_0] ∧ Md (cov []) σ3 σm, fun _ => fun σm => Hp S0 σ0 σm [Ch.ro 0 (Sl alist_0 list_0 clist_0) list_0] ∧ Md (cov []) σ3 σm] [fun _ => (Sl alist_0 list_0 clist_0), fun _ => (I s2), fun _ => (pt b9 o10), fun _ => (pt b9 (o10 + 0)), fun _ => (I x6.1), fun _ => (B r12), fun _ => (B (!r12)), fun _ => (B (!r12)), fun _ => (Sl alist_0 list_0 clist_0), fun _ => (I s2), fun _ => (pt b20 o21), fun _ => (pt b20 (o21 + 1)), fun _ => (I x17.2), fun _ => (B r23), fun _ => (B (!r23)), fun _ => (B (!r23)), fun _ => (B (!r23)), fun _ => (I s2), fun _ => (B (decide (0 < s2))), fun _ => (B (decide (0 < s2))), fun _ => (Sl alist_0 list_0 clist_0), fun _ => (I s2), fun _ => (I (w64 (s2 - 1))), fun _ => (pt b32 o33), fun _ => (.agg #[(I x29.1), (I x29.2)]), fun _ => (Sl alist_0 list_0 clist_0), fun _ => (I s2), fun _ => (pt b39 o40), fun _ => (.agg #[(I x36.1), (I x36.2)])] () (by kernel_rfl) (by kernel_rfl) ?_ ?_ ?_
       ·intro σm m0
        exact ⟨H.grow (m0.mono fun _ h => h.elim), m0⟩
       ·refine ac rfl (by
          intro k _nm ρ σm hJ hoff hdep
          have e0 := look_off (N := 63) (hoff 0 rfl) rfl
          exact dp_v (v := (Sl alist_0 list_0 clist_0)) wn (rv_move e0) rfl hJ) ?_
        refine ac rfl (by
          intro k _nm ρ σm hJ hoff hdep
          have e3 := look_off (N := 63) (hoff 3 rfl) rfl
          exact dp_v (v := (I s2)) wn (rv_move e3) rfl hJ) ?_
        refine ac rfl (by
          intro k _nm ρ σm hJ hoff hdep
          have e11 := hdep 0 rfl rfl 11 rfl
          have e12 := hdep 1 rfl rfl 12 rfl
          exact dp_v (v := (pt b9 o10)) wn (rv_ix Try.underlying23 ti40 e11 e12 hi8) rfl hJ) ?_
        refine ac rfl (by
          intro k _nm ρ σm hJ hoff hdep
          have e13 := hdep 2 rfl rfl 13 rfl
          exact dp_v (v := (pt b9 (o10 + 0))) wn (rv_fieldAddr (off := 0) (ft := 3) Try.underlying40 rfl ti3 rfl e13) rfl hJ) ?_
        refine all_cons (by
          refine ⟨?_, ?_⟩
          ·intro _nm ρ σm hJ hoff hdep
           have e14 := hdep 3 rfl rfl 14 rfl
           obtain ⟨H, m⟩ := id hJ
           replace hc11 := (Hs.ro 0 rfl).hmd hx7 hi8 (k := 0) (by decide) hc11 m
           exact dp_v (v := (I x6.1)) wn (rv_load1 Try.underlying3 rfl e14 hc11) rfl hJ
          trivial) ?_
        refine all_cons (by
          refine ⟨?_, ?_⟩
          ·intro _nm ρ σm hJ hoff hdep
           have e15 : look 63 ρ 15 = (I x6.1) := hdep 4 rfl rfl 15 rfl
           obtain ⟨H, m⟩ := id hJ
           refine dp_cx wn (cx_call hc14 (ent_f hc14.fn (by show [look 63 ρ 15, (I 1), (I 99)] = _; rw [e15])) hn0 (show Hp S0 σ0 _ ([] ++ [Ch.ro 0 (Sl alist_0 list_0 clist_0) list_0]) from (H.sel' [0] rfl rfl))) ?_
           rintro _ σq ⟨_, ⟨rfl, rfl⟩, H2, m2⟩
           exact ⟨_, (), rfl, rfl, ⟨H2.sel' [0] rfl rfl, m.comp0 m2⟩, stab [0, 1, 2, 3, 4] (by kernel_rfl) ⟨rfl, rfl, rfl, rfl, rfl, trivial⟩⟩
          trivial) ?_
        refine ac rfl (by
          intro k _nm ρ σm hJ hoff hdep
          have e16 := hdep 5 rfl rfl 16 rfl
          exact dp_v (v := (B (!r12))) wn (rv_not e16) rfl hJ) ?_
        refine ac rfl (by
          intro k _nm ρ σm hJ hoff hdep
          have e17 := hdep 6 rfl rfl 17 rfl
          exact dp_v (v := (B (!r12))) wn (rv_move e17) rfl hJ) ?_
        refine ac rfl (by
          intro k _nm ρ σm hJ hoff hdep
          have e0 := look_off (N := 63) (hoff 0 rfl) rfl
          have e18 := hdep 7 rfl rfl 18 rfl
          exact dp_v (v := (Sl alist_0 list_0 clist_0)) (wanted_yes rfl (yv_of rfl (e18.trans (congrArg B hb15)))) (rv_move e0) rfl hJ) ?_
        refine ac rfl (by
          intro k _nm ρ σm hJ hoff hdep
          have e3 := look_off (N := 63) (hoff 3 rfl) rfl
          have e18 := hdep 7 rfl rfl 18 rfl
          exact dp_v (v := (I s2)) (wanted_yes rfl (yv_of rfl (e18.trans (congrArg B hb15)))) (rv_move e3) rfl hJ) ?_
        refine ac rfl (by
          intro k _nm ρ σm hJ hoff hdep
          have e19 := hdep 8 rfl rfl 19 rfl
          have e20 := hdep 9 rfl rfl 20 rfl
          have e18 := hdep 7 rfl rfl 18 rfl
          exact dp_v (v := (pt b20 o21)) (wanted_yes rfl (yv_of rfl (e18.trans (congrArg B hb15)))) (rv_ix Try.underlying23 ti40 e19 e20 hi19) rfl hJ) ?_
        refine ac rfl (by
          intro k _nm ρ σm hJ hoff hdep
          have e21 := hdep 10 rfl rfl 21 rfl
          have e18 := hdep 7 rfl rfl 18 rfl
          exact dp_v (v := (pt b20 (o21 + 1))) (wanted_yes rfl (yv_of rfl (e18.trans (congrArg B hb15)))) (rv_fieldAddr (off := 1) (ft := 3) Try.underlying40 rfl ti3 rfl e21) rfl hJ) ?_
        refine all_cons (by
          refine ⟨?_, ?_⟩
          ·intro _nm ρ σm hJ hoff hdep
           have e22 := hdep 11 rfl rfl 22 rfl
           have e18 := hdep 7 rfl rfl 18 rfl
           obtain ⟨H, m⟩ := id hJ
           replace hc22 := (Hs.ro 0 rfl).hmd hx18 hi19 (k := 1) (by decide) hc22 m
           exact dp_v (v := (I x17.2)) (wanted_yes rfl (yv_of rfl (e18.trans (congrArg B hb15)))) (rv_load1 Try.underlying3 rfl e22 hc22) rfl hJ
          trivial) ?_
        refine all_cons (by
          refine ⟨?_, ?_⟩
          ·intro _nm ρ σm hJ hoff hdep
           have e23 : look 63 ρ 23 = (I x17.2) := hdep 12 rfl rfl 23 rfl
           have e18 := hdep 7 rfl rfl 18 rfl
           obtain ⟨H, m⟩ := id hJ
           refine dp_cx (wanted_yes rfl (yv_of rfl (e18.trans (congrArg B hb15)))) (cx_call hc25 (ent_f hc25.fn (by show [look 63 ρ 23, (I 0), (I 1000000)] = _; rw [e23])) hn0 (show Hp S0 σ0 _ ([] ++ [Ch.ro 0 (Sl alist_0 list_0 clist_0) list_0]) from (H.sel' [0] rfl rfl))) ?_
           rintro _ σq ⟨_, ⟨rfl, rfl⟩, H2, m2⟩
           exact ⟨_, (), rfl, rfl, ⟨H2.sel' [0] rfl rfl, m.comp0 m2⟩, stab [0, 1, 2, 3, 4, 5, 6, 7, 8, 9, 10, 11, 12] (by kernel_rfl) ⟨rfl, rfl, rfl, rfl, rfl, rfl, rfl, rfl, rfl, rfl, rfl, rfl, rfl, trivial⟩⟩
          trivial) ?_
        refine ac rfl (by
          intro k _nm ρ σm hJ hoff hdep
          have e24 := hdep 13 rfl rfl 24 rfl
          have e18 := hdep 7 rfl rfl 18 rfl
          exact dp_v (v := (B (!r23))) (wanted_yes rfl (yv_of rfl (e18.trans (congrArg B hb15)))) (rv_not e24) rfl hJ) ?_
        refine ac rfl (by
          intro k _nm ρ σm hJ hoff hdep
          have e18 := hdep 7 rfl rfl 18 rfl
          have e25 := hdep 14 rfl rfl 25 rfl
          exact dp_v (v := (B (!r23))) wn (rv_pick_f (e18.trans (congrArg B hb15)) e25) rfl hJ) ?_
        refine ac rfl (by
          intro k _nm ρ σm hJ hoff hdep
          have e26 := hdep 15 rfl rfl 26 rfl
          exact dp_v (v := (B (!r23))) wn (rv_move e26) rfl hJ) ?_
        refine ac rfl (by
          intro k _nm ρ σm hJ hoff hdep
          have e3 := look_off (N := 63) (hoff 3 rfl) rfl
          have e27 := hdep 16 rfl rfl 27 rfl
          exact dp_v (v := (I s2)) (wanted_yes rfl (yv_of rfl (e27.trans (congrArg B hb26)))) (rv_move e3) rfl hJ) ?_
        refine ac rfl (by
          intro k _nm ρ σm hJ hoff hdep
          have e28 := hdep 17 rfl rfl 28 rfl
          have e27 := hdep 16 rfl rfl 27 rfl
          exact dp_v (v := (B (decide (0 < s2)))) (wanted_yes rfl (yv_of rfl (e27.trans (congrArg B hb26)))) (rv_gtr (a := s2) (b := 0) e28 rfl) rfl hJ) ?_
        refine ac rfl (by
          intro k _nm ρ σm hJ hoff hdep
          have e29 := hdep 18 rfl rfl 29 rfl
          have e27 := hdep 16 rfl rfl 27 rfl
          exact dp_v (v := (B (decide (0 < s2)))) (wanted_yes rfl (yv_of rfl (e27.trans (congrArg B hb26)))) (rv_move e29) rfl hJ) ?_
        refine ac rfl (by
          intro k _nm ρ σm hJ hoff hdep
          have e0 := look_off (N := 63) (hoff 0 rfl) rfl
          have e30 := hdep 19 rfl rfl 30 rfl
          exact dp_v (v := (Sl alist_0 list_0 clist_0)) (wanted_yes rfl (yv_of rfl (e30.trans (congrArg B hb28)))) (rv_move e0) rfl hJ) ?_
        refine ac rfl (by
          intro k _nm ρ σm hJ hoff hdep
          have e3 := look_off (N := 63) (hoff 3 rfl) rfl
          have e30 := hdep 19 rfl rfl 30 rfl
          exact dp_v (v := (I s2)) (wanted_yes rfl (yv_of rfl (e30.trans (congrArg B hb28)))) (rv_move e3) rfl hJ) ?_
        refine ac rfl (by
          intro k _nm ρ σm hJ hoff hdep
          have e32 := hdep 21 rfl rfl 32 rfl
          have e30 := hdep 19 rfl rfl 30 rfl
          exact dp_v (v := (I (w64 (s2 - 1)))) (wanted_yes rfl (yv_of rfl (e30.trans (congrArg B hb28)))) (rv_sub (a := s2) (b := 1) e32 rfl) rfl hJ) ?_
        refine ac rfl (by
          intro k _nm ρ σm hJ hoff hdep
          have e31 := hdep 20 rfl rfl 31 rfl
          have e33 := hdep 22 rfl rfl 33 rfl
          have e30 := hdep 19 rfl rfl 30 rfl
          exact dp_v (v := (pt b32 o33)) (wanted_yes rfl (yv_of rfl (e30.trans (congrArg B hb28)))) (rv_ix Try.underlying23 ti40 e31 e33 hi31) rfl hJ) ?_
        refine all_cons (by
          refine ⟨?_, ?_⟩
          ·intro _nm ρ σm hJ hoff hdep
           have e34 := hdep 23 rfl rfl 34 rfl
           have e30 := hdep 19 rfl rfl 30 rfl
           obtain ⟨H, m⟩ := id hJ
           replace hc35 := fun j hj => (Hs.ro 0 rfl).hmd hx30 hi31 (k := j) (Nat.lt_of_lt_of_eq hj hl34) (hc35 j hj) m
           exact dp_v (v := (.agg #[(I x29.1), (I x29.2)])) (wanted_yes rfl (yv_of rfl (e30.trans (congrArg B hb28)))) (rv_load Try.underlying40 rfl ti40 e34 hl34 hc35) rfl hJ
          trivial) ?_
        refine ac rfl (by
          intro k _nm ρ σm hJ hoff hdep
          have e0 := look_off (N := 63) (hoff 0 rfl) rfl
          have e30 := hdep 19 rfl rfl 30 rfl
          exact dp_v (v := (Sl alist_0 list_0 clist_0)) (wanted_yes rfl (yv_of rfl (e30.trans (congrArg B hb28)))) (rv_move e0) rfl hJ) ?_
        refine ac rfl (by
          intro k _nm ρ σm hJ hoff hdep
          have e3 := look_off (N := 63) (hoff 3 rfl) rfl
          have e30 := hdep 19 rfl rfl 30 rfl
          exact dp_v (v := (I s2)) (wanted_yes rfl (yv_of rfl (e30.trans (congrArg B hb28)))) (rv_move e3) rfl hJ) ?_
        refine ac rfl (by
          intro k _nm ρ σm hJ hoff hdep
          have e36 := hdep 25 rfl rfl 36 rfl
          have e37 := hdep 26 rfl rfl 37 rfl
          have e30 := hdep 19 rfl rfl 30 rfl
          exact dp_v (v := (pt b39 o40)) (wanted_yes rfl (yv_of rfl (e30.trans (congrArg B hb28)))) (rv_ix Try.underlying23 ti40 e36 e37 hi38) rfl hJ) ?_
        refine all_cons (by
          refine ⟨?_, ?_⟩
          ·intro _nm ρ σm hJ hoff hdep
           have e38 := hdep 27 rfl rfl 38 rfl
           have e30 := hdep 19 rfl rfl 30 rfl
           obtain ⟨H, m⟩ := id hJ
           replace hc42 := fun j hj => (Hs.ro 0 rfl).hmd hx37 hi38 (k := j) (Nat.lt_of_lt_of_eq hj hl41) (hc42 j hj) m
           exact dp_v (v := (.agg #[(I x36.1), (I x36.2)])) (wanted_yes rfl (yv_of rfl (e30.trans (congrArg B hb28)))) (rv_load Try.underlying40 rfl ti40 e38 hl41 hc42) rfl hJ
          trivial) ?_
        exact all_nil
       ·intro _nm ρ σ43 hJ hoff hrel
        have e0 := look_off (N := 63) (hoff 0 rfl) rfl
        have e3 := look_off (N := 63) (hoff 3 rfl) rfl
        have e27 := hrel 16 rfl 27 rfl
        have e30 := hrel 19 rfl 30 rfl
        have e35 := hrel 24 rfl 35 rfl
        have e39 := hrel 28 rfl 39 rfl
        obtain ⟨H, -⟩ := (show Hp S0 σ0 σ43 [Ch.ro 0 (Sl alist_0 list_0 clist_0) list_0] ∧ Md (cov []) σ3 σ43 from hJ)
        clear hJ Hs
        rw [fr_lookL (L := [(0, (Sl alist_0 list_0 clist_0)), (3, (I s2)), (27, (B (!r23))), (30, (B (decide (0 < s2)))), (35, (.agg #[(I x29.1), (I x29.2)])), (39, (.agg #[(I x36.1), (I x36.2)]))]) ⟨e0, e3, e27, e30, e35, e39, trivial⟩]
        clear hoff hrel e0 e3 e27 e30 e35 e39
        obtain ⟨r44, hx45, h'⟩ := bind_some h
        clear h
        have h := h'; clear h'
        have hc46 := c_spec_nearer hx45
        refine st_call (cx_call hc46 (ent_f hc46.fn rfl) hn0 (show Hp S0 σ0 _ ([] ++ [Ch.ro 0 (Sl alist_0 list_0 clist_0) list_0]) from (H.sel' [0] rfl rfl))) (wanted_yes rfl (by exact (congrArg some hb28))) ?_
        rintro _ σ47 ⟨_, ⟨rfl, rfl⟩, H, -⟩
        replace H : Hp S0 σ0 σ47 [Ch.ro 0 (Sl alist_0 list_0 clist_0) list_0] := H
        refine st_g (v := (B (!r44))) (congrArg some hb28) (rv_not rfl) ?_
        refine st_g (v := (B (!r44))) (congrArg some hb26) (rv_pick_t (congrArg B hb28) rfl) ?_
        refine st (v := (B (!r44))) (rv_pick_f (congrArg B hb26) rfl) ?_
        refine w_end ?_
        obtain rfl := Option.some.inj h
        exact ⟨rfl, _, σ47, fr_join ⟨rfl, rfl, rfl, trivial⟩, rfl, H.sel' [0] rfl rfl⟩
      ·replace h := bif_f hb28 h
       have Hs := H
       refine rg2 (σ := σ3) (Nm := Unit) 29 [5, 13] [[false, false], [true, false], [true, true]] [[(0, 0)], [(0, 0)], [(0, 0)], [(0, 0)], [(0, 0)], [(0, 1)], [(1, 1)], [(1, 1)], [(1, 1)], [(1, 1)], [(1, 1)], [(1, 1)], [(1, 1)], [(1, 2)], [(2, 2)], [(2, 2)], [(2, 2)], [(2, 2)], [(2, 2)], [(2, 2)], [(2, 2)], [(2, 2)], [(2, 2)], [(2, 2)], [(2, 2)], [(2, 2)], [(2, 2)], [(2, 2)], [(2, 2)]] 2 [fun _ => fun σm => Hp S0 σ0 σm [Ch.ro 0 (Sl alist_0 list_0 clist_0) list_0] ∧ Md (cov []) σ3 σm, fun _ => fun σm => Hp S0 σ0 σm [Ch.ro 0 (Sl alist_0 list_0 clist_0) list_0] ∧ Md (cov []) σ3 σm, fun _ => fun σm => Hp S0 σ0 σm [Ch.ro 0 (Sl alist_0 list_0 clist_0) list_0] ∧ Md (cov []) σ3 σm] [fun _ => (Sl alist_0 list_0 clist_0), fun _ => (I s2), fun _ => (pt b9 o10), fun _ => (pt b9 (o10 + 0)), fun _ => (I x6.1), fun _ => (B r12), fun _ => (B (!r12)), fun _ => (B (!r12)), fun _ => (Sl alist_0 list_0 clist_0), fun _ => (I s2), fun _ => (pt b20 o21), fun _ => (pt b20 (o21 + 1)), fun _ => (I x17.2), fun _ => (B r23), fun _ => (B (!r23)), fun _ => (B (!r23)), fun _ => (B (!r23)), fun _ => (I s2), fun _ => (B (decide (0 < s2))), fun _ => (B (decide (0 < s2))), fun _ => undef, fun _ => undef, fun _ => undef, fun _ => undef, fun _ => undef, fun _ => undef, fun _ => undef, fun _ => undef, fun _ => undef] () (by kernel_rfl) (by kernel_rfl) ?_ ?_ ?_
       ·intro σm m0
        exact ⟨H.grow (m0.mono fun _ h => h.elim), m0⟩
       ·refine ac rfl (by
          intro k _nm ρ σm hJ hoff hdep
          have e0 := look_off (N := 63) (hoff 0 rfl) rfl
          exact dp_v (v := (Sl alist_0 list_0 clist_0)) wn (rv_move e0) rfl hJ) ?_
        refine ac rfl (by
          intro k _nm ρ σm hJ hoff hdep
          have e3 := look_off (N := 63) (hoff 3 rfl) rfl
          exact dp_v (v := (I s2)) wn (rv_move e3) rfl hJ) ?_
        refine ac rfl (by
          intro k _nm ρ σm hJ hoff hdep
          have e11 := hdep 0 rfl rfl 11 rfl
          have e12 := hdep 1 rfl rfl 12 rfl
          exact dp_v (v := (pt b9 o10)) wn (rv_ix Try.underlying23 ti40 e11 e12 hi8) rfl hJ) ?_
        refine ac rfl (by
          intro k _nm ρ σm hJ hoff hdep
          have e13 := hdep 2 rfl rfl 13 rfl
          exact dp_v (v := (pt b9 (o10 + 0))) wn (rv_fieldAddr (off := 0) (ft := 3) Try.underlying40 rfl ti3 rfl e13) rfl hJ) ?_
        refine all_cons (by
          refine ⟨?_, ?_⟩
          ·intro _nm ρ σm hJ hoff hdep
           have e14 := hdep 3 rfl rfl 14 rfl
           obtain ⟨H, m⟩ := id hJ
           replace hc11 := (Hs.ro 0 rfl).hmd hx7 hi8 (k := 0) (by decide) hc11 m
           exact dp_v (v := (I x6.1)) wn (rv_load1 Try.underlying3 rfl e14 hc11) rfl hJ
          trivial) ?_
        refine all_cons (by
          refine ⟨?_, ?_⟩
          ·intro _nm ρ σm hJ hoff hdep
           have e15 : look 63 ρ 15 = (I x6.1) := hdep 4 rfl rfl 15 rfl
           obtain ⟨H, m⟩ := id hJ
           refine dp_cx wn (cx_call hc14 (ent_f hc14.fn (by show [look 63 ρ 15, (I 1), (I 99)] = _; rw [e15])) hn0 (show Hp S0 σ0 _ ([] ++ [Ch.ro 0 (Sl alist_0 list_0 clist_0) list_0]) from (H.sel' [0] rfl rfl))) ?_
           rintro _ σq ⟨_, ⟨rfl, rfl⟩, H2, m2⟩
           exact ⟨_, (), rfl, rfl, ⟨H2.sel' [0] rfl rfl, m.comp0 m2⟩, stab [0, 1, 2, 3, 4] (by kernel_rfl) ⟨rfl, rfl, rfl, rfl, rfl, trivial⟩⟩
          trivial) ?_
        refine ac rfl (by
          intro k _nm ρ σm hJ hoff hdep
          have e16 := hdep 5 rfl rfl 16 rfl
          exact dp_v (v := (B (!r12))) wn (rv_not e16) rfl hJ) ?_
        refine ac rfl (by
          intro k _nm ρ σm hJ hoff hdep
          have e17 := hdep 6 rfl rfl 17 rfl
          exact dp_v (v := (B (!r12))) wn (rv_move e17) rfl hJ) ?_
        refine ac rfl (by
          intro k _nm ρ σm hJ hoff hdep
          have e0 := look_off (N := 63) (hoff 0 rfl) rfl
          have e18 := hdep 7 rfl rfl 18 rfl
          exact dp_v (v := (Sl alist_0 list_0 clist_0)) (wanted_yes rfl (yv_of rfl (e18.trans (congrArg B hb15)))) (rv_move e0) rfl hJ) ?_
        refine ac rfl (by
          intro k _nm ρ σm hJ hoff hdep
          have e3 := look_off (N := 63) (hoff 3 rfl) rfl
          have e18 := hdep 7 rfl rfl 18 rfl
          exact dp_v (v := (I s2)) (wanted_yes rfl (yv_of rfl (e18.trans (congrArg B hb15)))) (rv_move e3) rfl hJ) ?_
        refine ac rfl (by
          intro k _nm ρ σm hJ hoff hdep
          have e19 := hdep 8 rfl rfl 19 rfl
          have e20 := hdep 9 rfl rfl 20 rfl
          have e18 := hdep 7 rfl rfl 18 rfl
          exact dp_v (v := (pt b20 o21)) (wanted_yes rfl (yv_of rfl (e18.trans (congrArg B hb15)))) (rv_ix Try.underlying23 ti40 e19 e20 hi19) rfl hJ) ?_
        refine ac rfl (by
          intro k _nm ρ σm hJ hoff hdep
          have e21 := hdep 10 rfl rfl 21 rfl
          have e18 := hdep 7 rfl rfl 18 rfl
          exact dp_v (v := (pt b20 (o21 + 1))) (wanted_yes rfl (yv_of rfl (e18.trans (congrArg B hb15)))) (rv_fieldAddr (off := 1) (ft := 3) Try.underlying40 rfl ti3 rfl e21) rfl hJ) ?_
        refine all_cons (by
          refine ⟨?_, ?_⟩
          ·intro _nm ρ σm hJ hoff hdep
           have e22 := hdep 11 rfl rfl 22 rfl
           have e18 := hdep 7 rfl rfl 18 rfl
           obtain ⟨H, m⟩ := id hJ
           replace hc22 := (Hs.ro 0 rfl).hmd hx18 hi19 (k := 1) (by decide) hc22 m
           exact dp_v (v := (I x17.2)) (wanted_yes rfl (yv_of rfl (e18.trans (congrArg B hb15)))) (rv_load1 Try.underlying3 rfl e22 hc22) rfl hJ
          trivial) ?_
        refine all_cons (by
          refine ⟨?_, ?_⟩
          ·intro _nm ρ σm hJ hoff hdep
           have e23 : look 63 ρ 23 = (I x17.2) := hdep 12 rfl rfl 23 rfl
           have e18 := hdep 7 rfl rfl 18 rfl
           obtain ⟨H, m⟩ := id hJ
           refine dp_cx (wanted_yes rfl (yv_of rfl (e18.trans (congrArg B hb15)))) (cx_call hc25 (ent_f hc25.fn (by show [look 63 ρ 23, (I 0), (I 1000000)] = _; rw [e23])) hn0 (show Hp S0 σ0 _ ([] ++ [Ch.ro 0 (Sl alist_0 list_0 clist_0) list_0]) from (H.sel' [0] rfl rfl))) ?_
           rintro _ σq ⟨_, ⟨rfl, rfl⟩, H2, m2⟩
           exact ⟨_, (), rfl, rfl, ⟨H2.sel' [0] rfl rfl, m.comp0 m2⟩, stab [0, 1, 2, 3, 4, 5, 6, 7, 8, 9, 10, 11, 12] (by kernel_rfl) ⟨rfl, rfl, rfl, rfl, rfl, rfl, rfl, rfl, rfl, rfl, rfl, rfl, rfl, trivial⟩⟩
          trivial) ?_
        refine ac rfl (by
          intro k _nm ρ σm hJ hoff hdep
          have e24 := hdep 13 rfl rfl 24 rfl
          have e18 := hdep 7 rfl rfl 18 rfl
          exact dp_v (v := (B (!r23))) (wanted_yes rfl (yv_of rfl (e18.trans (congrArg B hb15)))) (rv_not e24) rfl hJ) ?_
        refine ac rfl (by
          intro k _nm ρ σm hJ hoff hdep
          have e18 := hdep 7 rfl rfl 18 rfl
          have e25 := hdep 14 rfl rfl 25 rfl
          exact dp_v (v := (B (!r23))) wn (rv_pick_f (e18.trans (congrArg B hb15)) e25) rfl hJ) ?_
        refine ac rfl (by
          intro k _nm ρ σm hJ hoff hdep
          have e26 := hdep 15 rfl rfl 26 rfl
          exact dp_v (v := (B (!r23))) wn (rv_move e26) rfl hJ) ?_
        refine ac rfl (by
          intro k _nm ρ σm hJ hoff hdep
          have e3 := look_off (N := 63) (hoff 3 rfl) rfl
          have e27 := hdep 16 rfl rfl 27 rfl
          exact dp_v (v := (I s2)) (wanted_yes rfl (yv_of rfl (e27.trans (congrArg B hb26)))) (rv_move e3) rfl hJ) ?_
        refine ac rfl (by
          intro k _nm ρ σm hJ hoff hdep
          have e28 := hdep 17 rfl rfl 28 rfl
          have e27 := hdep 16 rfl rfl 27 rfl
          exact dp_v (v := (B (decide (0 < s2)))) (wanted_yes rfl (yv_of rfl (e27.trans (congrArg B hb26)))) (rv_gtr (a := s2) (b := 0) e28 rfl) rfl hJ) ?_
        refine ac rfl (by
          intro k _nm ρ σm hJ hoff hdep
          have e29 := hdep 18 rfl rfl 29 rfl
          have e27 := hdep 16 rfl rfl 27 rfl
          exact dp_v (v := (B (decide (0 < s2)))) (wanted_yes rfl (yv_of rfl (e27.trans (congrArg B hb26)))) (rv_move e29) rfl hJ) ?_
        refine ac rfl (by
          intro k _nm ρ σm hJ hoff hdep
          have e30 := hdep 19 rfl rfl 30 rfl
          exact dp_skip (wanted_no rfl (yv_of rfl (e30.trans (congrArg B hb28)))) rfl hJ) ?_
        refine ac rfl (by
          intro k _nm ρ σm hJ hoff hdep
          have e30 := hdep 19 rfl rfl 30 rfl
          exact dp_skip (wanted_no rfl (yv_of rfl (e30.trans (congrArg B hb28)))) rfl hJ) ?_
        refine ac rfl (by
          intro k _nm ρ σm hJ hoff hdep
          have e30 := hdep 19 rfl rfl 30 rfl
          exact dp_skip (wanted_no rfl (yv_of rfl (e30.trans (congrArg B hb28)))) rfl hJ) ?_
        refine ac rfl (by
          intro k _nm ρ σm hJ hoff hdep
          have e30 := hdep 19 rfl rfl 30 rfl
          exact dp_skip (wanted_no rfl (yv_of rfl (e30.trans (congrArg B hb28)))) rfl hJ) ?_
        refine ac rfl (by
          intro k _nm ρ σm hJ hoff hdep
          have e30 := hdep 19 rfl rfl 30 rfl
          exact dp_skip (wanted_no rfl (yv_of rfl (e30.trans (congrArg B hb28)))) rfl hJ) ?_
        refine ac rfl (by
          intro k _nm ρ σm hJ hoff hdep
          have e30 := hdep 19 rfl rfl 30 rfl
          exact dp_skip (wanted_no rfl (yv_of rfl (e30.trans (congrArg B hb28)))) rfl hJ) ?_
        refine ac rfl (by
          intro k _nm ρ σm hJ hoff hdep
          have e30 := hdep 19 rfl rfl 30 rfl
          exact dp_skip (wanted_no rfl (yv_of rfl (e30.trans (congrArg B hb28)))) rfl hJ) ?_
        refine ac rfl (by
          intro k _nm ρ σm hJ hoff hdep
          have e30 := hdep 19 rfl rfl 30 rfl
          exact dp_skip (wanted_no rfl (yv_of rfl (e30.trans (congrArg B hb28)))) rfl hJ) ?_
        refine ac rfl (by
          intro k _nm ρ σm hJ hoff hdep
          have e30 := hdep 19 rfl rfl 30 rfl
          exact dp_skip (wanted_no rfl (yv_of rfl (e30.trans (congrArg B hb28)))) rfl hJ) ?_
        exact all_nil
       ·intro _nm ρ σ48 hJ hoff hrel
        have e0 := look_off (N := 63) (hoff 0 rfl) rfl
        have e3 := look_off (N := 63) (hoff 3 rfl) rfl
        have e27 := hrel 16 rfl 27 rfl
        have e30 := hrel 19 rfl 30 rfl
        have e35 := hrel 24 rfl 35 rfl
        have e39 := hrel 28 rfl 39 rfl
        obtain ⟨H, -⟩ := (show Hp S0 σ0 σ48 [Ch.ro 0 (Sl alist_0 list_0 clist_0) list_0] ∧ Md (cov []) σ3 σ48 from hJ)
        clear hJ Hs
        rw [fr_lookL (L := [(0, (Sl alist_0 list_0 clist_0)), (3, (I s2)), (27, (B (!r23))), (30, (B (decide (0 < s2)))), (35, undef), (39, undef)]) ⟨e0, e3, e27, e30, e35, e39, trivial⟩]
        clear hoff hrel e0 e3 e27 e30 e35 e39
        refine st_skip (congrArg some hb28) ?_
        refine st_skip (congrArg some hb28) ?_
        refine st_g (v := (B false)) (congrArg some hb26) (rv_pick_f (congrArg B hb28) rfl) ?_
        refine st (v := (B false)) (rv_pick_f (congrArg B hb26) rfl) ?_
        refine w_end ?_
        obtain rfl := Option.some.inj h
        exact ⟨rfl, _, σ48, fr_join ⟨rfl, rfl, rfl, trivial⟩, rfl, H.sel' [0] rfl rfl⟩
   ·clear hj
    have h := h'
    clear h' H
    rintro e a w ⟨rfl, ρ, σ49, rfl, rfl, H⟩
    refine q_then ?_
    refine cd_cond o5 rfl (fun hb50 => ?_) (fun hb50 => ?_)
    ·replace h := bif_t hb50 h
     refine c_seq ?_
     refine rg ?_
     refine st (v := (B false)) (rv_assign rfl) ?_
     refine w_end ?_
     refine q_then ?_
     refine c_ret ?_
     refine q_then_r ?_
     refine q_blk_r ?_
     refine q_then_r ?_
     refine q_then_r ?_
     refine q_blk_r ?_
     obtain rfl := Option.some.inj h
     obtain rfl := hres _ rfl
     exact .inr (⟨_, rfl, rfl, _, σ49, fr_join ⟨rfl, trivial⟩, rfl, H.sel' [] rfl rfl⟩)
    ·replace h := bif_f hb50 h
     refine c_skip ?_
     refine q_then ?_
     refine c_seq ?_
     refine rg ?_
     refine st (v := (I 0)) (rv_assign rfl) ?_
     refine w_end ?_
     refine q_then ?_
     obtain ⟨o51, hj, h'⟩ := bind_some h
     clear h
     refine c_cut (fun e a w => (∃ t, o51 = (.inl t) ∧ e = .normal ∧ ∃ (ρ : Nat → Value) (σ : St), a = fr 63 (updL ρ [(0, (Sl alist_0 list_0 clist_0)), (3, (I s2))]) ∧ w = σ.w ∧ Hp S0 σ0 σ [Ch.ro 0 (Sl alist_0 list_0 clist_0) list_0]) ∨ (∃ t, o51 = (.inr t) ∧ e = .ret ∧ ∃ (ρ : Nat → Value) (σ : St), a = fr 63 (updL ρ [(2, (B t))]) ∧ w = σ.w ∧ Hp S0 σ0 σ [])) ?_ ?_
     ·clear h'
      rename _ = some o51 => h
      refine c_blk ?_
      refine wp_loopM _ h (fun s52 a w => ∃ (ρ : Nat → Value) (σ : St), a = fr 63 (updL ρ [(0, (Sl alist_0 list_0 clist_0)), (3, (I s2)), (4, (I s52))]) ∧ w = σ.w ∧ Hp S0 σ0 σ [Ch.ro 0 (Sl alist_0 list_0 clist_0) list_0]) ⟨_, σ49, fr_join ⟨rfl, rfl, rfl, trivial⟩, rfl, H.sel' [0] rfl rfl⟩ ?_
      clear h H
      rintro s52 a w o ⟨ρ, σ53, rfl, rfl, H⟩ h hres
      refine c_seq ?_
      refine c_seq ?_
      refine rg ?_
      refine st (v := (I s52)) (rv_move rfl) ?_
      refine st (v := (I s2)) (rv_move rfl) ?_
      refine st (v := (B (decide (s52 < s2)))) (rv_lss (a := s52) (b := s2) rfl rfl) ?_
      refine w_end ?_
      refine q_then ?_
      refine cd_cond (decide (s52 < s2)) rfl (fun hb54 => ?_) (fun hb54 => ?_)
      ·replace h := bif_t hb54 h
       refine c_skip ?_
       refine q_then ?_
       refine c_seq ?_
       refine c_blk ?_
       refine c_seq ?_
       refine rgP (σ := σ53) 10 (by kernel_rfl) (by kernel_rfl) (by kernel_rfl) ?_
       refine sq (v := (Sl alist_0 list_0 clist_0)) (rv_move rfl) ?_
       refine sq (v := (I s52)) (rv_move rfl) ?_
       obtain ⟨x55, hx56, h'⟩ := bind_some h
       clear h
       have h := h'; clear h'
       obtain ⟨b58, o59, hi57, -⟩ := (H.ro 0 rfl).ix hx56
       refine sq (v := (pt b58 o59)) (rv_ix Try.underlying23 ti40 rfl rfl hi57) ?_
       refine sq (v := (pt b58 (o59 + 0))) (rv_fieldAddr (off := 0) (ft := 3) Try.underlying40 rfl ti3 rfl rfl) ?_
       have hc60 := ((H.ro 0 rfl).at hx56 hi57).fst.int
       refine sq (v := (I x55.1)) (rv_load1 Try.underlying3 rfl rfl hc60) ?_
       refine sq (v := (Sl alist_0 list_0 clist_0)) (rv_move rfl) ?_
       refine sq (v := (I s2)) (rv_move rfl) ?_
       obtain ⟨x61, hx62, h'⟩ := bind_some h
       clear h
       have h := h'; clear h'
       obtain ⟨b64, o65, hi63, -⟩ := (H.ro 0 rfl).ix hx62
       refine sq (v := (pt b64 o65)) (rv_ix Try.underlying23 ti40 rfl rfl hi63) ?_
       refine sq (v := (pt b64 (o65 + 0))) (rv_fieldAddr (off := 0) (ft := 3) Try.underlying40 rfl ti3 rfl rfl) ?_
       have hc66 := ((H.ro 0 rfl).at hx62 hi63).fst.int
       refine sq (v := (I x61.1)) (rv_load1 Try.underlying3 rfl rfl hc66) ?_
       refine sq_end ?_
       intro σ67 hm68
       replace H := H.grow (hm68.mono fun _ h => h); clear hm68
       refine st (v := (B (x55.1 == x61.1))) (rv_eql (a := x55.1) (b := x61.1) rfl rfl) ?_
       refine w_end ?_
       refine q_then ?_
       refine cd_cond (x55.1 == x61.1) rfl (fun hb69 => ?_) (fun hb69 => ?_)
       ·replace h := bif_t hb69 h
        refine c_seq ?_
        refine rg ?_
        refine st (v := (B false)) (rv_assign rfl) ?_
        refine w_end ?_
        refine q_then ?_
        refine c_ret ?_
        refine q_blk_r ?_
        refine q_then_r ?_
        refine q_then_r ?_
        refine q_blk_r ?_
        obtain rfl := Option.some.inj h
        obtain rfl := hres _ rfl
        exact .inr (⟨_, rfl, rfl, _, σ67, fr_join ⟨rfl, trivial⟩, rfl, H.sel' [] rfl rfl⟩)
       ·replace h := bif_f hb69 h
        refine c_skip ?_
        refine q_blk ?_
        refine q_then ?_
        refine rg ?_
        refine st (v := (I s52)) (rv_move rfl) ?_
        refine st (v := (I (w64 (s52 + 1)))) (rv_add (a := s52) (b := 1) rfl rfl) ?_
        refine st (v := (I (w64 (s52 + 1)))) (rv_assign rfl) ?_
        refine w_end ?_
        refine q_then ?_
        obtain rfl := Option.some.inj h
        exact ⟨_, rfl, _, σ67, fr_join ⟨rfl, rfl, rfl, trivial⟩, rfl, H.sel' [0] rfl rfl⟩
      ·replace h := bif_f hb54 h
       refine c_exit ?_
       refine q_then_x ?_
       refine q_then_x ?_
       refine q_blk_hit ?_
       obtain rfl := Option.some.inj h
       obtain rfl := hres _ rfl
       exact .inl ⟨_, rfl, rfl, _, σ53, fr_join ⟨rfl, rfl, trivial⟩, rfl, H.sel' [0] rfl rfl⟩
     ·clear hj
      have h := h'
      clear h' H
      rintro e a w (⟨t70, rfl, rfl, ρ, σ71, rfl, rfl, H⟩ | ⟨t72, rfl, rfl, ρ, σ73, rfl, rfl, H⟩)
      ·replace h := selim_l h
       refine q_blk ?_
       refine q_then ?_
       refine rg ?_
       refine st (v := (I s2)) (rv_move rfl) ?_
       refine st (v := (I (w64 (s2 + 1)))) (rv_add (a := s2) (b := 1) rfl rfl) ?_
       refine st (v := (I (w64 (s2 + 1)))) (rv_assign rfl) ?_
       refine w_end ?_
       refine q_then ?_
       obtain rfl := Option.some.inj h
       exact ⟨_, rfl, _, σ71, fr_join ⟨rfl, rfl, trivial⟩, rfl, H.sel' [0] rfl rfl⟩
      ·replace h := selim_r h
       refine q_blk_r ?_
       refine q_then_r ?_
       refine q_then_r ?_
       refine q_blk_r ?_
       obtain rfl := Option.some.inj h
       obtain rfl := hres _ rfl
       exact .inr (⟨_, rfl, rfl, _, σ73, fr_join ⟨rfl, trivial⟩, rfl, H.sel' [] rfl rfl⟩)
  ·replace h := bif_f hb4 h
   refine c_exit ?_
   refine q_then_x ?_
   refine q_then_x ?_
   refine q_blk_hit ?_
   obtain rfl := Option.some.inj h
   obtain rfl := hres _ rfl
   exact .inl ⟨_, rfl, rfl, _, σ3, fr_join ⟨rfl, trivial⟩, rfl, H.sel' [0] rfl rfl⟩
 ·clear hj
  have h := h'
  clear h' H
  rintro e a w (⟨t74, rfl, rfl, ρ, σ75, rfl, rfl, H⟩ | ⟨t76, rfl, rfl, ρ, σ77, rfl, rfl, H⟩)
  ·replace h := selim_l h
   refine q_then ?_
   refine c_seq ?_
   refine rg ?_
   refine st (v := (Sl alist_0 list_0 clist_0)) (rv_move rfl) ?_
   refine st (v := (I (list_0.length : Int))) (rv_len Try.underlying23 rfl) ?_
   refine st (v := (B (decide ((list_0.length : Int) ≤ 16)))) (rv_leq (a := (list_0.length : Int)) (b := 16) rfl rfl) ?_
   refine st (v := (B (decide ((list_0.length : Int) ≤ 16)))) (rv_assign rfl) ?_
   refine w_end ?_
   refine q_then ?_
   refine c_ret ?_
   obtain rfl := Option.some.inj h
   exact fin_ret (v := (B (decide ((list_0.length : Int) ≤ 16)))) (results_ok Try.results41 (res_tmp (v := (B (decide ((list_0.length : Int) ≤ 16)))) rfl res_nil) rfl) ⟨rfl, rfl⟩ (H.sel' [] rfl rfl)
  ·replace h := selim_r h
   refine q_then_r ?_
   obtain rfl := Option.some.inj h
   exact fin_ret (v := (B t76)) (results_ok Try.results41 (res_tmp (v := (B t76)) rfl res_nil) rfl) ⟨rfl, rfl⟩ (H.sel' [] rfl rfl)

theorem c_spec_hitAt {list_0 : List (Int × Int)} {key_1 : Int} {alist_0 : Option Addr} {clist_0 : Nat} {r : Int} (h : M.spec_hitAt list_0 key_1 = some r) :
    Cal2 Try.prog 42 [(Sl alist_0 list_0 clist_0), (I key_1)] [Ch.ro 0 (Sl alist_0 list_0 clist_0) list_0] (fun n0 v L => v = (I r) ∧ L = []) := by
 refine cal2 (n := 20) Try.func42 rfl rfl rfl rfl ?_
 intro S0 σ0 n0 hn0 H
 unfold M.spec_hitAt at h
 refine c_seq ?_
 refine rg ?_
 refine st (v := (I 0)) (rv_assign rfl) ?_
 refine w_end ?_
 refine q_then ?_
 refine c_seq ?_
 refine c_seq ?_
 refine rg ?_
 refine st (v := (I 0)) (rv_assign rfl) ?_
 refine w_end ?_
 refine q_then ?_
 obtain ⟨o1, hj, h'⟩ := bind_some h
 clear h
 refine c_cut (fun e a w => (∃ t, o1 = (.inl t) ∧ e = .normal ∧ ∃ (ρ : Nat → Value) (σ : St), a = fr 20 (updL ρ []) ∧ w = σ.w ∧ Hp S0 σ0 σ []) ∨ (∃ t, o1 = (.inr t) ∧ e = .ret ∧ ∃ (ρ : Nat → Value) (σ : St), a = fr 20 (updL ρ [(4, (I t))]) ∧ w = σ.w ∧ Hp S0 σ0 σ [])) ?_ ?_
 ·clear h'
  rename _ = some o1 => h
  refine c_blk ?_
  refine wp_loopM _ h (fun s2 a w => ∃ (ρ : Nat → Value) (σ : St), a = fr 20 (updL ρ [(0, (Sl alist_0 list_0 clist_0)), (1, (I key_1)), (5, (I s2))]) ∧ w = σ.w ∧ Hp S0 σ0 σ [Ch.ro 0 (Sl alist_0 list_0 clist_0) list_0]) ⟨_, σ0, fr_join ⟨rfl, rfl, rfl, trivial⟩, rfl, H.sel' [0] rfl rfl⟩ ?_
  clear h H
  rintro s2 a w o ⟨ρ, σ3, rfl, rfl, H⟩ h hres
  refine c_seq ?_
  refine c_seq ?_
  refine rg ?_
  refine st (v := (I s2)) (rv_move rfl) ?_
  refine st (v := (Sl alist_0 list_0 clist_0)) (rv_move rfl) ?_
  refine st (v := (I (list_0.length : Int))) (rv_len Try.underlying23 rfl) ?_
  refine st (v := (B (decide (s2 < (list_0.length : Int))))) (rv_lss (a := s2) (b := (list_0.length : Int)) rfl rfl) ?_
  refine w_end ?_
  refine q_then ?_
  refine cd_cond (decide (s2 < (list_0.length : Int))) rfl (fun hb4 => ?_) (fun hb4 => ?_)
  ·replace h := bif_t hb4 h
   refine c_skip ?_
   refine q_then ?_
   refine c_seq ?_
   refine c_blk ?_
   refine c_seq ?_
   refine rg ?_
   refine st (v := (Sl alist_0 list_0 clist_0)) (rv_move rfl) ?_
   refine st (v := (I s2)) (rv_move rfl) ?_
   obtain ⟨x5, hx6, h'⟩ := bind_some h
   clear h
   have h := h'; clear h'
   obtain ⟨b8, o9, hi7, -⟩ := (H.ro 0 rfl).ix hx6
   refine st (v := (pt b8 o9)) (rv_ix Try.underlying23 ti40 rfl rfl hi7) ?_
   refine st (v := (pt b8 (o9 + 0))) (rv_fieldAddr (off := 0) (ft := 3) Try.underlying40 rfl ti3 rfl rfl) ?_
   have hc10 := ((H.ro 0 rfl).at hx6 hi7).fst.int
   refine st (v := (I x5.1)) (rv_load1 Try.underlying3 rfl rfl hc10) ?_
   refine st (v := (I key_1)) (rv_move rfl) ?_
   refine st (v := (B (x5.1 == key_1))) (rv_eql (a := x5.1) (b := key_1) rfl rfl) ?_
   refine w_end ?_
   refine q_then ?_
   refine cd_cond (x5.1 == key_1) rfl (fun hb11 => ?_) (fun hb11 => ?_)
   ·replace h := bif_t hb11 h
    refine c_seq ?_
    refine rg ?_
    refine st (v := (I s2)) (rv_move rfl) ?_
    refine st (v := (I s2)) (rv_assign rfl) ?_
    refine w_end ?_
    refine q_then ?_
    refine c_ret ?_
    refine q_blk_r ?_
    refine q_then_r ?_
    refine q_then_r ?_
    refine q_blk_r ?_
    obtain rfl := Option.some.inj h
    obtain rfl := hres _ rfl
    exact .inr (⟨_, rfl, rfl, _, σ3, fr_join ⟨rfl, trivial⟩, rfl, H.sel' [] rfl rfl⟩)
   ·replace h := bif_f hb11 h
    refine c_skip ?_
    refine q_blk ?_
    refine q_then ?_
    refine rg ?_
    refine st (v := (I s2)) (rv_move rfl) ?_
    refine st (v := (I (w64 (s2 + 1)))) (rv_add (a := s2) (b := 1) rfl rfl) ?_
    refine st (v := (I (w64 (s2 + 1)))) (rv_assign rfl) ?_
    refine w_end ?_
    refine q_then ?_
    obtain rfl := Option.some.inj h
    exact ⟨_, rfl, _, σ3, fr_join ⟨rfl, rfl, rfl, trivial⟩, rfl, H.sel' [0] rfl rfl⟩
  ·replace h := bif_f hb4 h
   refine c_exit ?_
   refine q_then_x ?_
   refine q_then_x ?_
   refine q_blk_hit ?_
   obtain rfl := Option.some.inj h
   obtain rfl := hres _ rfl
   exact .inl ⟨_, rfl, rfl, _, σ3, fr_join trivial, rfl, H.sel' [] rfl rfl⟩
 ·clear hj
  have h := h'
  clear h' H
  rintro e a w (⟨t12, rfl, rfl, ρ, σ13, rfl, rfl, H⟩ | ⟨t14, rfl, rfl, ρ, σ15, rfl, rfl, H⟩)
  ·replace h := selim_l h
   refine q_then ?_
   refine c_seq ?_
   refine rg ?_
   refine st (v := (I (-1))) (rv_assign rfl) ?_
   refine w_end ?_
   refine q_then ?_
   refine c_ret ?_
   obtain rfl := Option.some.inj h
   exact fin_ret (v := (I (-1))) (results_ok Try.results42 (res_tmp (v := (I (-1))) rfl res_nil) rfl) ⟨rfl, rfl⟩ (H.sel' [] rfl rfl)
  ·replace h := selim_r h
   refine q_then_r ?_
   obtain rfl := Option.some.inj h
   exact fin_ret (v := (I t14)) (results_ok Try.results42 (res_tmp (v := (I t14)) rfl res_nil) rfl) ⟨rfl, rfl⟩ (H.sel' [] rfl rfl)

theorem c_spec_rankScore {list_0 : List (Int × Int)} {key_1 : Int} {alist_0 : Option Addr} {clist_0 : Nat} {r : Int} (h : M.spec_rankScore list_0 key_1 = some r) :
    Cal2 Try.prog 55 [(Sl alist_0 list_0 clist_0), (I key_1)] [Ch.ro 0 (Sl alist_0 list_0 clist_0) list_0] (fun n0 v L => v = (I r) ∧ L = []) := by
 refine cal2 (n := 15) Try.func55 rfl rfl rfl rfl ?_
 intro S0 σ0 n0 hn0 H
 unfold M.spec_rankScore at h
 refine c_seq ?_
 refine rg ?_
 refine st (v := (I 0)) (rv_assign rfl) ?_
 refine w_end ?_
 refine q_then ?_
 refine c_seq ?_
 refine rg ?_
 refine st (v := (Sl alist_0 list_0 clist_0)) (rv_move rfl) ?_
 refine st (v := (I key_1)) (rv_move rfl) ?_
 obtain ⟨r1, hx2, h'⟩ := bind_some h
 clear h
 have h := h'; clear h'
 have hc3 := c_spec_hitAt (alist_0 := alist_0) (clist_0 := clist_0) hx2
 refine st_call (cx_call hc3 (ent_f hc3.fn rfl) hn0 (show Hp S0 σ0 _ ([Ch.ro 0 (Sl alist_0 list_0 clist_0) list_0] ++ [Ch.ro 0 (Sl alist_0 list_0 clist_0) list_0]) from (H.sel' [0, 0] rfl rfl))) wn ?_
 rintro _ σ4 ⟨_, ⟨rfl, rfl⟩, H, -⟩
 replace H : Hp S0 σ0 σ4 [Ch.ro 0 (Sl alist_0 list_0 clist_0) list_0] := H
 refine st (v := (I r1)) (rv_assign rfl) ?_
 refine w_end ?_
 refine q_then ?_
 refine c_seq ?_
 refine c_seq ?_
 refine rg ?_
 refine st (v := (I r1)) (rv_move rfl) ?_
 refine st (v := (B (decide (r1 < 0)))) (rv_lss (a := r1) (b := 0) rfl rfl) ?_
 refine w_end ?_
 refine q_then ?_
 refine cd_cond (decide (r1 < 0)) rfl (fun hb5 => ?_) (fun hb5 => ?_)
 ·replace h := bif_t hb5 h
  refine c_seq ?_
  refine rg ?_
  refine st (v := (I 0)) (rv_assign rfl) ?_
  refine w_end ?_
  refine q_then ?_
  refine c_ret ?_
  refine q_then_r ?_
  obtain rfl := Option.some.inj h
  exact fin_ret (v := (I 0)) (results_ok Try.results55 (res_tmp (v := (I 0)) rfl res_nil) rfl) ⟨rfl, rfl⟩ (H.sel' [] rfl rfl)
 ·replace h := bif_f hb5 h
  refine c_skip ?_
  refine q_then ?_
  refine c_seq ?_
  refine rg ?_
  refine st (v := (I r1)) (rv_move rfl) ?_
  refine st (v := (I (w64 (60 + r1)))) (rv_add (a := 60) (b := r1) rfl rfl) ?_
  refine st (v := (I (w64 ((w64 (60 + r1)) + 1)))) (rv_add (a := (w64 (60 + r1))) (b := 1) rfl rfl) ?_
  obtain ⟨q6, hx7, h'⟩ := bind_some h
  clear h
  have h := h'; clear h'
  refine st (v := (I q6)) (rv_quoG (a := 100000) (b := (w64 ((w64 (60 + r1)) + 1))) hx7 rfl rfl) ?_
  refine st (v := (I q6)) (rv_assign rfl) ?_
  refine w_end ?_
  refine q_then ?_
  refine c_ret ?_
  obtain rfl := Option.some.inj h
  exact fin_ret (v := (I q6)) (results_ok Try.results55 (res_tmp (v := (I q6)) rfl res_nil) rfl) ⟨rfl, rfl⟩ (H.sel' [] rfl rfl)

theorem c_spec_scoreOf {a_0 : List (Int × Int)} {b_1 : List (Int × Int)} {key_2 : Int} {aa_0 : Option Addr} {ca_0 : Nat} {ab_1 : Option Addr} {cb_1 : Nat} {r : Int} (h : M.spec_scoreOf a_0 b_1 key_2 = some r) :
    Cal2 Try.prog 43 [(Sl aa_0 a_0 ca_0), (Sl ab_1 b_1 cb_1), (I key_2)] [Ch.ro 0 (Sl aa_0 a_0 ca_0) a_0, Ch.ro 0 (Sl ab_1 b_1 cb_1) b_1] (fun n0 v L => v = (I r) ∧ L = []) := by
 refine cal2 (n := 14) Try.func43 rfl rfl rfl rfl ?_
 intro S0 σ0 n0 hn0 H
 unfold M.spec_scoreOf at h
 refine c_seq ?_
 refine rg ?_
 refine st (v := (I 0)) (rv_assign rfl) ?_
 refine w_end ?_
 refine q_then ?_
 refine c_seq ?_
 refine rg ?_
 refine st (v := (Sl aa_0 a_0 ca_0)) (rv_move rfl) ?_
 refine st (v := (I key_2)) (rv_move rfl) ?_
 obtain ⟨r1, hx2, h'⟩ := bind_some h
 clear h
 have h := h'; clear h'
 have hc3 := c_spec_rankScore (alist_0 := aa_0) (clist_0 := ca_0) hx2
 refine st_call (cx_call hc3 (ent_f hc3.fn rfl) hn0 (show Hp S0 σ0 _ ([Ch.ro 0 (Sl aa_0 a_0 ca_0) a_0] ++ [Ch.ro 0 (Sl aa_0 a_0 ca_0) a_0, Ch.ro 0 (Sl ab_1 b_1 cb_1) b_1]) from (H.sel' [0, 0, 1] rfl rfl))) wn ?_
 rintro _ σ4 ⟨_, ⟨rfl, rfl⟩, H, -⟩
 replace H : Hp S0 σ0 σ4 [Ch.ro 0 (Sl aa_0 a_0 ca_0) a_0, Ch.ro 0 (Sl ab_1 b_1 cb_1) b_1] := H
 refine st (v := (Sl ab_1 b_1 cb_1)) (rv_move rfl) ?_
 refine st (v := (I key_2)) (rv_move rfl) ?_
 obtain ⟨r5, hx6, h'⟩ := bind_some h
 clear h
 have h := h'; clear h'
 have hc7 := c_spec_rankScore (alist_0 := ab_1) (clist_0 := cb_1) hx6
 refine st_call (cx_call hc7 (ent_f hc7.fn rfl) hn0 (show Hp S0 σ0 _ ([Ch.ro 0 (Sl ab_1 b_1 cb_1) b_1] ++ [Ch.ro 0 (Sl aa_0 a_0 ca_0) a_0, Ch.ro 0 (Sl ab_1 b_1 cb_1) b_1]) from (H.sel' [1, 0, 1] rfl rfl))) wn ?_
 rintro _ σ8 ⟨_, ⟨rfl, rfl⟩, H, -⟩
 replace H : Hp S0 σ0 σ8 [Ch.ro 0 (Sl aa_0 a_0 ca_0) a_0, Ch.ro 0 (Sl ab_1 b_1 cb_1) b_1] := H
 refine st (v := (I (w64 (r1 + r5)))) (rv_add (a := r1) (b := r5) rfl rfl) ?_
 refine st (v := (I (w64 (r1 + r5)))) (rv_assign rfl) ?_
 refine w_end ?_
 refine q_then ?_
 refine c_ret ?_
 obtain rfl := Option.some.inj h
 exact fin_ret (v := (I (w64 (r1 + r5)))) (results_ok Try.results43 (res_tmp (v := (I (w64 (r1 + r5)))) rfl res_nil) rfl) ⟨rfl, rfl⟩ (H.sel' [] rfl rfl)

end Go.Vs

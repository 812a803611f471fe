/- The functions compute what their models say. -/
import Derived.Test.YtefojfippfoppabGreatKExactProbeNearestC6
set_option linter.unusedVariables false
set_option linter.unusedSimpArgs false
set_option maxRecDepth 20000
namespace Go.Vs
open Go Go.Proofs
attribute [local irreducible] Code.wp Code.wpIn wpList wpListIn wpQuiet Calls CallsIn

theorem c_slices_symMergeCmpFunc_int__impl_ProbeOrder_1 : ∀ (fuel : Nat) {Ek : List Int} {Bf : Int} {Ht : Int} {Hu : Int} {Gz : List (List Int)} {Ha : List Int} {El : Option Addr} {Em : Nat} {Hc : Option Addr} {Hd : Nat} {He Hf Hg : Nat} {Hi Hj : List Value} {Hk : Option Addr} {Hl : Nat} {Hm Hn Ho : Nat} {Hq Hr : List Value} {r : (List Int)} (h : M.slices_symMergeCmpFunc_int__impl_ProbeOrder_1 fuel Ek Bf Ht Hu Gz Ha = some r),
    Cal2 Tryz.prog 83 [(Sl El Ek Em), (I Bf), (I Ht), (I Hu), (.func (.func 64) #[] #[(pt Hf Hg), (pt Hn Ho)])] [Ch.own 0 0 (Sl El Ek Em) Ek, Ch.bx He Hf Hg [(Sl Hc Gz Hd)] Hi Hj, Ch.ro 0 (Sl Hc Gz Hd) Gz, Ch.bx Hm Hn Ho [(Sl Hk Ha Hl)] Hq Hr, Ch.ro 0 (Sl Hk Ha Hl) Ha] (fun n0 v L => v = (.tuple #[]) ∧ L = [Ch.own 0 0 (Sl El r Em) r, Ch.bx He Hf Hg [(Sl Hc Gz Hd)] Hi Hj, Ch.bx Hm Hn Ho [(Sl Hk Ha Hl)] Hq Hr] ∧ r.length = Ek.length) := by
 intro fuel
 induction fuel with
 | zero => intro _ _ _ _ _ _ _ _ _ _ _ _ _ _ _ _ _ _ _ _ _ _ r h; cases h
 | succ fuel ih =>
 ·intro Ek Bf Ht Hu Gz Ha El Em Hc Hd He Hf Hg Hi Hj Hk Hl Hm Hn Ho Hq Hr r h
  replace h : M.slices_symMergeCmpFunc_int__impl_ProbeOrder_1_F (M.slices_symMergeCmpFunc_int__impl_ProbeOrder_1 fuel) Ek Bf Ht Hu Gz Ha = some r := h
  refine cal2 (n := 220) Tryz.func83 rfl rfl rfl rfl ?_
  intro S0 σ0 n0 hn0 H
  unfold M.slices_symMergeCmpFunc_int__impl_ProbeOrder_1_F at h
  refine c_seq (c_seq (rg (sm (I Ht) rfl (sm (I Bf) rfl (st (v := (I (w64 (Ht - Bf)))) (rv_sub (a := Ht) (b := Bf) rfl rfl) (st (v := (B ((w64 (Ht - Bf)) == 1))) (rv_eql (a := (w64 (Ht - Bf))) (b := 1) rfl rfl) (w_end (q_then ?_))))))))
  refine cd_cond ((w64 (Ht - Bf)) == 1) rfl (fun hb1 => ?_) (fun hb1 => ?_)
  ·replace h := bif_t hb1 h
   refine c_seq (rg (sm (I Ht) rfl (sa (I Ht) rfl (w_end (q_then (c_seq (rg (sm (I Hu) rfl (sa (I Hu) rfl (w_end (q_then ?_)))))))))))
   refine c_seq ?_
   obtain ⟨o2, hj, h'⟩ := bind_some h
   clear h
   refine c_cut (fun e a w => e = .normal ∧ ∃ (ρ : Nat → Value) (σ : St), a = fr 220 (updL ρ [(0, (Sl El Ek Em)), (1, (I Bf)), (4, (.func (.func 64) #[] #[(pt Hf Hg), (pt Hn Ho)])), (10, (I o2))]) ∧ w = σ.w ∧ Hp S0 σ0 σ [Ch.own 0 0 (Sl El Ek Em) Ek, Ch.ro 0 (Sl Hc Gz Hd) Gz, Ch.bx He Hf Hg [(Sl Hc Gz Hd)] Hi Hj, Ch.ro 0 (Sl Hk Ha Hl) Ha, Ch.bx Hm Hn Ho [(Sl Hk Ha Hl)] Hq Hr]) ?_ ?_
   ·clear h'
    rename _ = some o2 => h
    refine c_blk (wp_loopM _ h (fun s3 a w => ∃ (ρ : Nat → Value) (σ : St), a = fr 220 (updL ρ [(0, (Sl El Ek Em)), (1, (I Bf)), (4, (.func (.func 64) #[] #[(pt Hf Hg), (pt Hn Ho)])), (10, (I s3.1)), (11, (I s3.2))]) ∧ w = σ.w ∧ Hp S0 σ0 σ [Ch.own 0 0 (Sl El Ek Em) Ek, Ch.ro 0 (Sl Hc Gz Hd) Gz, Ch.bx He Hf Hg [(Sl Hc Gz Hd)] Hi Hj, Ch.ro 0 (Sl Hk Ha Hl) Ha, Ch.bx Hm Hn Ho [(Sl Hk Ha Hl)] Hq Hr]) ⟨_, σ0, fr_join ⟨rfl, rfl, rfl, rfl, rfl, trivial⟩, rfl, H.sel' [0, 2, 1, 4, 3] rfl rfl⟩ ?_)
    clear h H
    rintro s3 a w o ⟨ρ, σ4, rfl, rfl, H⟩ h hres
    refine c_seq (c_seq (rg (sm (I s3.1) rfl (sm (I s3.2) rfl (st (v := (B (decide (s3.1 < s3.2)))) (rv_lss (a := s3.1) (b := s3.2) rfl rfl) (w_end (q_then ?_)))))))
    refine cd_cond (decide (s3.1 < s3.2)) rfl (fun hb5 => ?_) (fun hb5 => ?_)
    ·replace h := bif_t hb5 h
     refine c_skip (q_then (c_blk (c_seq (rg (sm (I s3.1) rfl (sm (I s3.2) rfl (st (v := (I (w64 (s3.1 + s3.2)))) (rv_add (a := s3.1) (b := s3.2) rfl rfl) (st (v := (.int .u64 (wk .u64 (w64 (s3.1 + s3.2))))) (rvk_conv (k := .i64) (k' := .u64) (a := (w64 (s3.1 + s3.2))) Tryz.underlying3 Tryz.underlying111 rfl) ?_))))))))
     refine st (v := (.int .u64 (gshr .u64 (wk .u64 (w64 (s3.1 + s3.2))) 1))) (rvk_shr (k := .u64) (k' := .u64) (a := (wk .u64 (w64 (s3.1 + s3.2)))) (b := 1) rfl rfl (by decide)) ?_
     refine st (v := (I (wk .i64 (gshr .u64 (wk .u64 (w64 (s3.1 + s3.2))) 1)))) (rvk_conv (k := .u64) (k' := .i64) (a := (gshr .u64 (wk .u64 (w64 (s3.1 + s3.2))) 1)) Tryz.underlying111 Tryz.underlying3 rfl) (sa (I (wk .i64 (gshr .u64 (wk .u64 (w64 (s3.1 + s3.2))) 1))) rfl (w_end (q_then (c_seq ?_))))
     refine rgP (σ := σ4) 9 (by kernel_rfl) (by kernel_rfl) (by kernel_rfl) ?_
     refine sq (v := (.func (.func 64) #[] #[(pt Hf Hg), (pt Hn Ho)])) (rv_move rfl) (sq (v := (Sl El Ek Em)) (rv_move rfl) (sq (v := (I (wk .i64 (gshr .u64 (wk .u64 (w64 (s3.1 + s3.2))) 1)))) (rv_move rfl) ?_))
     revert h; refine br fun x6 hx7 h => ?_
     obtain ⟨b9, o10, hi8, -⟩ := (H.own 0 rfl).ix hx7
     refine sq (v := (pt b9 o10)) (rv_ix Tryz.underlying24 ti3 rfl rfl hi8) ?_
     have hc11 := ((H.own 0 rfl).at hx7 hi8).int
     refine sq (v := (I x6)) (rv_load1 Tryz.underlying3 rfl rfl hc11) (sq (v := (Sl El Ek Em)) (rv_move rfl) (sq (v := (I Bf)) (rv_move rfl) ?_))
     revert h; refine br fun x12 hx13 h => ?_
     obtain ⟨b15, o16, hi14, -⟩ := (H.own 0 rfl).ix hx13
     refine sq (v := (pt b15 o16)) (rv_ix Tryz.underlying24 ti3 rfl rfl hi14) ?_
     have hc17 := ((H.own 0 rfl).at hx13 hi14).int
     refine sq (v := (I x12)) (rv_load1 Tryz.underlying3 rfl rfl hc17) (sq_end ?_)
     intro σ18 hm19
     replace H := H.grow (hm19.mono fun _ h => h); clear hm19
     revert h; refine br fun r20 hx21 h => ?_
     have hc22 := c_impl_ProbeOrder_1__p_SSint__p24 (Fu := He) (Fv := Hf) (Fw := Hg) (Fx := Hi) (Fy := Hj) (Fs := Hc) (Ft := Hd) (Gc := Hm) (Gd := Hn) (Ge := Ho) (Gf := Hq) (Gg := Hr) (Ga := Hk) (Gb := Hl) hx21
     refine st_call (cx_call hc22 (ent_v (cap := [(pt Hf Hg), (pt Hn Ho)]) hc22.fn rfl rfl) hn0 (H.sel' [2, 1, 4, 3, 0, 1, 3] rfl rfl : Hp S0 σ0 _ ([_, _, _, _] ++ _))) wn ?_
     rintro _ σ23 ⟨_, ⟨rfl, rfl⟩, H, -⟩
     replace H : Hp _ _ _ [_, _, _, _, _] := H
     refine st (v := (B (decide (r20 < 0)))) (rv_lss (a := r20) (b := 0) rfl rfl) (w_end (q_then ?_))
     refine cd_cond (decide (r20 < 0)) rfl (fun hb24 => ?_) (fun hb24 => ?_)
     ·replace h := bif_t hb24 h
      refine rg (sm (I (wk .i64 (gshr .u64 (wk .u64 (w64 (s3.1 + s3.2))) 1))) rfl (st (v := (I (w64 ((wk .i64 (gshr .u64 (wk .u64 (w64 (s3.1 + s3.2))) 1)) + 1)))) (rv_add (a := (wk .i64 (gshr .u64 (wk .u64 (w64 (s3.1 + s3.2))) 1))) (b := 1) rfl rfl) (sa (I (w64 ((wk .i64 (gshr .u64 (wk .u64 (w64 (s3.1 + s3.2))) 1)) + 1))) rfl (w_end (q_blk (q_then ?_))))))
      obtain rfl := sj h
      exact ⟨_, rfl, _, σ23, fr_join ⟨rfl, rfl, rfl, rfl, rfl, trivial⟩, rfl, H.sel' [2, 3, 0, 4, 1] rfl rfl⟩
     ·replace h := bif_f hb24 h
      refine rg (sm (I (wk .i64 (gshr .u64 (wk .u64 (w64 (s3.1 + s3.2))) 1))) rfl (sa (I (wk .i64 (gshr .u64 (wk .u64 (w64 (s3.1 + s3.2))) 1))) rfl (w_end (q_blk (q_then ?_)))))
      obtain rfl := sj h
      exact ⟨_, rfl, _, σ23, fr_join ⟨rfl, rfl, rfl, rfl, rfl, trivial⟩, rfl, H.sel' [2, 3, 0, 4, 1] rfl rfl⟩
    ·replace h := bif_f hb5 h
     refine c_exit (q_then_x (q_then_x (q_blk_hit ?_)))
     obtain rfl := sj h
     obtain rfl := hres _ rfl
     exact ⟨rfl, _, σ4, fr_join ⟨rfl, rfl, rfl, rfl, trivial⟩, rfl, H.sel' [0, 1, 2, 3, 4] rfl rfl⟩
   ·clear hj
    have h := h'
    clear h' H
    rintro e a w ⟨rfl, ρ, σ25, rfl, rfl, H⟩
    refine q_then (c_seq (c_seq (rg (sm (I Bf) rfl (sa (I Bf) rfl (w_end (q_then ?_)))))))
    obtain ⟨o26, hj, h'⟩ := bind_some h
    clear h
    refine c_cut (fun e a w => e = .normal ∧ ∃ (ρ : Nat → Value) (σ : St), a = fr 220 (updL ρ [(0, (Sl El o26 Em)), (4, (.func (.func 64) #[] #[(pt Hf Hg), (pt Hn Ho)]))]) ∧ w = σ.w ∧ Hp S0 σ0 σ [Ch.own 0 0 (Sl El o26 Em) o26, Ch.ro 0 (Sl Hc Gz Hd) Gz, Ch.bx He Hf Hg [(Sl Hc Gz Hd)] Hi Hj, Ch.ro 0 (Sl Hk Ha Hl) Ha, Ch.bx Hm Hn Ho [(Sl Hk Ha Hl)] Hq Hr] ∧ o26.length = Ek.length) ?_ ?_
    ·clear h'
     rename _ = some o26 => h
     refine c_blk (wp_loopM _ h (fun s27 a w => ∃ (ρ : Nat → Value) (σ : St), a = fr 220 (updL ρ [(0, (Sl El s27.1 Em)), (4, (.func (.func 64) #[] #[(pt Hf Hg), (pt Hn Ho)])), (10, (I o2)), (13, (I s27.2))]) ∧ w = σ.w ∧ Hp S0 σ0 σ [Ch.own 0 0 (Sl El s27.1 Em) s27.1, Ch.ro 0 (Sl Hc Gz Hd) Gz, Ch.bx He Hf Hg [(Sl Hc Gz Hd)] Hi Hj, Ch.ro 0 (Sl Hk Ha Hl) Ha, Ch.bx Hm Hn Ho [(Sl Hk Ha Hl)] Hq Hr] ∧ s27.1.length = Ek.length) ⟨_, σ25, fr_join ⟨rfl, rfl, rfl, rfl, trivial⟩, rfl, H.sel' [0, 1, 2, 3, 4] rfl rfl, rfl⟩ ?_)
     clear h H
     rintro s27 a w o ⟨ρ, σ28, rfl, rfl, H, hn29⟩ h hres
     refine c_seq (c_seq (rg (sm (I s27.2) rfl (sm (I o2) rfl (st (v := (I (w64 (o2 - 1)))) (rv_sub (a := o2) (b := 1) rfl rfl) (st (v := (B (decide (s27.2 < (w64 (o2 - 1)))))) (rv_lss (a := s27.2) (b := (w64 (o2 - 1))) rfl rfl) (w_end (q_then ?_))))))))
     refine cd_cond (decide (s27.2 < (w64 (o2 - 1)))) rfl (fun hb30 => ?_) (fun hb30 => ?_)
     ·replace h := bif_t hb30 h
      refine c_skip (q_then (c_seq (c_blk ?_)))
      revert h; refine br fun x31 hx32 h => ?_
      obtain ⟨b34, o35, hi33, -⟩ := (H.own 0 rfl).ix hx32
      have hc36 := ((H.own 0 rfl).at hx32 hi33).int
      revert h; refine br fun x37 hx38 h => ?_
      obtain ⟨b40, o41, hi39, -⟩ := (H.own 0 rfl).ix hx38
      have hc42 := ((H.own 0 rfl).at hx38 hi39).int
      revert h; refine br fun x43 hx44 h => ?_
      obtain ⟨b46, o47, hi45, -⟩ := (H.own 0 rfl).ix hx44
      have Hs := H
      refine rg2 (σ := σ28) (Nm := Unit) 16 [15] [[false], [true]] [[(0, 0)], [(0, 0)], [(0, 0), (1, 1)], [(0, 0), (1, 1)], [(0, 0), (1, 1)], [(0, 0)], [(0, 0)], [(0, 0)], [(0, 0)], [(0, 0)], [(0, 0)], [(0, 0)], [(0, 0)], [(0, 0)], [(0, 0)], [(0, 1)]] 1 [fun _ => fun σm => Hp S0 σ0 σm [Ch.own 0 0 (Sl El s27.1 Em) s27.1, Ch.ro 0 (Sl Hc Gz Hd) Gz, Ch.bx He Hf Hg [(Sl Hc Gz Hd)] Hi Hj, Ch.ro 0 (Sl Hk Ha Hl) Ha, Ch.bx Hm Hn Ho [(Sl Hk Ha Hl)] Hq Hr] ∧ Md (cov []) σ28 σm, fun _ => fun σm => Hp S0 σ0 σm [Ch.own 0 0 (Sl El s27.1 Em) (s27.1.set s27.2.toNat x31), Ch.ro 0 (Sl Hc Gz Hd) Gz, Ch.bx He Hf Hg [(Sl Hc Gz Hd)] Hi Hj, Ch.ro 0 (Sl Hk Ha Hl) Ha, Ch.bx Hm Hn Ho [(Sl Hk Ha Hl)] Hq Hr] ∧ Md (fun i => (cov []) i ∨ (fun b => blk (Sl El s27.1 Em) = some b) i) σ28 σm] [fun _ => (Sl El s27.1 Em), fun _ => (I s27.2), fun _ => (Sl El s27.1 Em), fun _ => (I s27.2), fun _ => (I (w64 (s27.2 + 1))), fun _ => (Sl El s27.1 Em), fun _ => (I s27.2), fun _ => (I (w64 (s27.2 + 1))), fun _ => (pt b34 o35), fun _ => (I x31), fun _ => (Sl El s27.1 Em), fun _ => (I s27.2), fun _ => (pt b40 o41), fun _ => (I x37), fun _ => (pt b46 o47), fun _ => undef] () (by kernel_rfl) (by kernel_rfl) ?_ ?_ ?_
      ·intro σm m0
       exact ⟨H.grow (m0.mono fun _ h => h.elim), m0⟩
      ·refine ac rfl (by
         intro k _nm ρ σm hJ hoff hdep
         have e0 := look_off (N := 220) (hoff 0 rfl) rfl
         exact dp_v (v := (Sl El s27.1 Em)) wn (rv_move e0) rfl hJ) ?_
       refine ac rfl (by
         intro k _nm ρ σm hJ hoff hdep
         have e13 := look_off (N := 220) (hoff 13 rfl) rfl
         exact dp_v (v := (I s27.2)) wn (rv_move e13) rfl hJ) ?_
       refine ac rfl (by
         intro k _nm ρ σm hJ hoff hdep
         have e0 := look_off (N := 220) (hoff 0 rfl) rfl
         exact dp_v (v := (Sl El s27.1 Em)) wn (rv_move e0) rfl hJ) ?_
       refine ac rfl (by
         intro k _nm ρ σm hJ hoff hdep
         have e13 := look_off (N := 220) (hoff 13 rfl) rfl
         exact dp_v (v := (I s27.2)) wn (rv_move e13) rfl hJ) ?_
       refine ac rfl (by
         intro k _nm ρ σm hJ hoff hdep
         have e64 := hdep 3 rfl rfl 64 rfl
         exact dp_v (v := (I (w64 (s27.2 + 1)))) wn (rv_add (a := s27.2) (b := 1) e64 rfl) rfl hJ) ?_
       refine ac rfl (by
         intro k _nm ρ σm hJ hoff hdep
         have e0 := look_off (N := 220) (hoff 0 rfl) rfl
         exact dp_v (v := (Sl El s27.1 Em)) wn (rv_move e0) rfl hJ) ?_
       refine ac rfl (by
         intro k _nm ρ σm hJ hoff hdep
         have e13 := look_off (N := 220) (hoff 13 rfl) rfl
         exact dp_v (v := (I s27.2)) wn (rv_move e13) rfl hJ) ?_
       refine ac rfl (by
         intro k _nm ρ σm hJ hoff hdep
         have e67 := hdep 6 rfl rfl 67 rfl
         exact dp_v (v := (I (w64 (s27.2 + 1)))) wn (rv_add (a := s27.2) (b := 1) e67 rfl) rfl hJ) ?_
       refine ac rfl (by
         intro k _nm ρ σm hJ hoff hdep
         have e66 := hdep 5 rfl rfl 66 rfl
         have e68 := hdep 7 rfl rfl 68 rfl
         exact dp_v (v := (pt b34 o35)) wn (rv_ix Tryz.underlying24 ti3 e66 e68 hi33) rfl hJ) ?_
       refine all_cons (by
         refine ⟨?_, ?_⟩
         ·intro _nm ρ σm hJ hoff hdep
          have e69 := hdep 8 rfl rfl 69 rfl
          obtain ⟨H, m⟩ := id hJ
          have hc36 := ((H.own 0 rfl).at hx32 hi33).int
          exact dp_v (v := (I x31)) wn (rv_load1 Tryz.underlying3 rfl e69 hc36) rfl hJ
         trivial) ?_
       refine ac rfl (by
         intro k _nm ρ σm hJ hoff hdep
         have e0 := look_off (N := 220) (hoff 0 rfl) rfl
         exact dp_v (v := (Sl El s27.1 Em)) wn (rv_move e0) rfl hJ) ?_
       refine ac rfl (by
         intro k _nm ρ σm hJ hoff hdep
         have e13 := look_off (N := 220) (hoff 13 rfl) rfl
         exact dp_v (v := (I s27.2)) wn (rv_move e13) rfl hJ) ?_
       refine ac rfl (by
         intro k _nm ρ σm hJ hoff hdep
         have e71 := hdep 10 rfl rfl 71 rfl
         have e72 := hdep 11 rfl rfl 72 rfl
         exact dp_v (v := (pt b40 o41)) wn (rv_ix Tryz.underlying24 ti3 e71 e72 hi39) rfl hJ) ?_
       refine all_cons (by
         refine ⟨?_, ?_⟩
         ·intro _nm ρ σm hJ hoff hdep
          have e73 := hdep 12 rfl rfl 73 rfl
          obtain ⟨H, m⟩ := id hJ
          have hc42 := ((H.own 0 rfl).at hx38 hi39).int
          exact dp_v (v := (I x37)) wn (rv_load1 Tryz.underlying3 rfl e73 hc42) rfl hJ
         trivial) ?_
       refine ac rfl (by
         intro k _nm ρ σm hJ hoff hdep
         have e61 := hdep 0 rfl rfl 61 rfl
         have e62 := hdep 1 rfl rfl 62 rfl
         exact dp_v (v := (pt b46 o47)) wn (rv_ix Tryz.underlying24 ti3 e61 e62 hi45) rfl hJ) ?_
       refine all_cons (by
         refine ⟨?_, ?_⟩
         ·intro _nm ρ σm hJ hoff hdep
          have e75 := hdep 14 rfl rfl 75 rfl
          have e70 := hdep 9 rfl rfl 70 rfl
          obtain ⟨H, m⟩ := id hJ
          refine dp_exS wn rfl (ex_store_own (e' := x31) (vs := [(I x31)]) (k := 0) H (i := 0) rfl ti3 hx44 hi45 e75 rfl e70 rfl rfl (Nat.le_of_ble_eq_true rfl) (by simp [plain]) (by rintro _ rfl; exact rfl)) ?_
          rintro σq ⟨H2, m2⟩
          exact ⟨_, (), rfl, ⟨H2.sel' [0, 1, 2, 3, 4] rfl rfl, m.comp m2⟩, stab [0, 1, 2, 3, 4, 5, 6, 7, 8, 9, 10, 11, 12, 13, 14] (by kernel_rfl) ⟨rfl, rfl, rfl, rfl, rfl, rfl, rfl, rfl, rfl, rfl, rfl, rfl, rfl, rfl, rfl, trivial⟩⟩
         trivial) ?_
       exact all_nil
      ·intro _nm ρ σ48 hJ hoff hrel
       have e0 := look_off (N := 220) (hoff 0 rfl) rfl
       have e4 := look_off (N := 220) (hoff 4 rfl) rfl
       have e10 := look_off (N := 220) (hoff 10 rfl) rfl
       have e13 := look_off (N := 220) (hoff 13 rfl) rfl
       have e63 := hrel 2 rfl 63 rfl
       have e65 := hrel 4 rfl 65 rfl
       have e74 := hrel 13 rfl 74 rfl
       obtain ⟨H, -⟩ := (show Hp S0 σ0 σ48 [Ch.own 0 0 (Sl El s27.1 Em) (s27.1.set s27.2.toNat x31), Ch.ro 0 (Sl Hc Gz Hd) Gz, Ch.bx He Hf Hg [(Sl Hc Gz Hd)] Hi Hj, Ch.ro 0 (Sl Hk Ha Hl) Ha, Ch.bx Hm Hn Ho [(Sl Hk Ha Hl)] Hq Hr] ∧ Md (fun i => (cov []) i ∨ (fun b => blk (Sl El s27.1 Em) = some b) i) σ28 σ48 from hJ)
       clear hJ Hs
       rw [fr_lookL (L := [(0, (Sl El s27.1 Em)), (4, (.func (.func 64) #[] #[(pt Hf Hg), (pt Hn Ho)])), (10, (I o2)), (13, (I s27.2)), (63, (Sl El s27.1 Em)), (65, (I (w64 (s27.2 + 1)))), (74, (I x37))]) ⟨e0, e4, e10, e13, e63, e65, e74, trivial⟩]
       clear hoff hrel e0 e4 e10 e13 e63 e65 e74
       have hsl : (Sl El s27.1 Em) = (Sl El (s27.1.set s27.2.toNat x31) Em) := sl_len (by simp)
       rw [hsl]; rw [hsl] at H; clear hsl
       revert h; refine br fun x49 hx50 h => ?_
       obtain ⟨b52, o53, hi51, -⟩ := (H.own 0 rfl).ix hx50
       refine st (v := (pt b52 o53)) (rv_ix Tryz.underlying24 ti3 rfl rfl hi51) ?_
       refine st_exS (ex_store_own (e' := x37) (vs := [(I x37)]) (k := 0) H (i := 0) rfl ti3 hx50 hi51 rfl rfl rfl rfl rfl (Nat.le_of_ble_eq_true rfl) (by simp [plain]) (by rintro _ rfl; exact rfl)) wn ?_
       rintro σ54 ⟨H, -⟩
       have hsl : (Sl El (s27.1.set s27.2.toNat x31) Em) = (Sl El ((s27.1.set s27.2.toNat x31).set (w64 (s27.2 + 1)).toNat x37) Em) := sl_len List.length_set.symm
       rw [hsl]; rw [hsl] at H; clear hsl
       refine w_end (q_blk (q_then (rg (sm (I s27.2) rfl (st (v := (I (w64 (s27.2 + 1)))) (rv_add (a := s27.2) (b := 1) rfl rfl) (sa (I (w64 (s27.2 + 1))) rfl (w_end (q_then ?_))))))))
       obtain rfl := sj h
       exact ⟨_, rfl, _, σ54, fr_join ⟨rfl, rfl, rfl, rfl, trivial⟩, rfl, H.sel' [0, 1, 2, 3, 4] rfl rfl, (List.length_set.trans (List.length_set.trans hn29))⟩
     ·replace h := bif_f hb30 h
      refine c_exit (q_then_x (q_then_x (q_blk_hit ?_)))
      obtain rfl := sj h
      obtain rfl := hres _ rfl
      exact ⟨rfl, _, σ28, fr_join ⟨rfl, rfl, trivial⟩, rfl, H.sel' [0, 1, 2, 3, 4] rfl rfl, hn29⟩
    ·clear hj
     have h := h'
     clear h' H
     rintro e a w ⟨rfl, ρ, σ55, rfl, rfl, H, hn56⟩
     refine q_then (c_ret (q_then_r ?_))
     obtain rfl := sj h
     exact fin_ret (v := (.tuple #[])) (results_ok Tryz.results83 res_nil rfl) ⟨rfl, rfl, hn56⟩ (H.sel' [0, 2, 4] rfl rfl)
  ·replace h := bif_f hb1 h
   refine c_skip (q_then (c_seq (c_seq (rg (sm (I Hu) rfl (sm (I Ht) rfl (st (v := (I (w64 (Hu - Ht)))) (rv_sub (a := Hu) (b := Ht) rfl rfl) (st (v := (B ((w64 (Hu - Ht)) == 1))) (rv_eql (a := (w64 (Hu - Ht))) (b := 1) rfl rfl) (w_end (q_then ?_))))))))))
   refine cd_cond ((w64 (Hu - Ht)) == 1) rfl (fun hb57 => ?_) (fun hb57 => ?_)
   ·replace h := bif_t hb57 h
    refine c_seq (rg (sm (I Bf) rfl (sa (I Bf) rfl (w_end (q_then (c_seq (rg (sm (I Ht) rfl (sa (I Ht) rfl (w_end (q_then ?_)))))))))))
    refine c_seq ?_
    obtain ⟨o58, hj, h'⟩ := bind_some h
    clear h
    refine c_cut (fun e a w => e = .normal ∧ ∃ (ρ : Nat → Value) (σ : St), a = fr 220 (updL ρ [(0, (Sl El Ek Em)), (2, (I Ht)), (4, (.func (.func 64) #[] #[(pt Hf Hg), (pt Hn Ho)])), (14, (I o58))]) ∧ w = σ.w ∧ Hp S0 σ0 σ [Ch.own 0 0 (Sl El Ek Em) Ek, Ch.ro 0 (Sl Hc Gz Hd) Gz, Ch.bx He Hf Hg [(Sl Hc Gz Hd)] Hi Hj, Ch.ro 0 (Sl Hk Ha Hl) Ha, Ch.bx Hm Hn Ho [(Sl Hk Ha Hl)] Hq Hr]) ?_ ?_
    ·clear h'
     rename _ = some o58 => h
     refine c_blk (wp_loopM _ h (fun s59 a w => ∃ (ρ : Nat → Value) (σ : St), a = fr 220 (updL ρ [(0, (Sl El Ek Em)), (2, (I Ht)), (4, (.func (.func 64) #[] #[(pt Hf Hg), (pt Hn Ho)])), (14, (I s59.1)), (15, (I s59.2))]) ∧ w = σ.w ∧ Hp S0 σ0 σ [Ch.own 0 0 (Sl El Ek Em) Ek, Ch.ro 0 (Sl Hc Gz Hd) Gz, Ch.bx He Hf Hg [(Sl Hc Gz Hd)] Hi Hj, Ch.ro 0 (Sl Hk Ha Hl) Ha, Ch.bx Hm Hn Ho [(Sl Hk Ha Hl)] Hq Hr]) ⟨_, σ0, fr_join ⟨rfl, rfl, rfl, rfl, rfl, trivial⟩, rfl, H.sel' [0, 2, 1, 4, 3] rfl rfl⟩ ?_)
     clear h H
     rintro s59 a w o ⟨ρ, σ60, rfl, rfl, H⟩ h hres
     refine c_seq (c_seq (rg (sm (I s59.1) rfl (sm (I s59.2) rfl (st (v := (B (decide (s59.1 < s59.2)))) (rv_lss (a := s59.1) (b := s59.2) rfl rfl) (w_end (q_then ?_)))))))
     refine cd_cond (decide (s59.1 < s59.2)) rfl (fun hb61 => ?_) (fun hb61 => ?_)
     ·replace h := bif_t hb61 h
      refine c_skip (q_then (c_blk (c_seq (rg (sm (I s59.1) rfl (sm (I s59.2) rfl (st (v := (I (w64 (s59.1 + s59.2)))) (rv_add (a := s59.1) (b := s59.2) rfl rfl) (st (v := (.int .u64 (wk .u64 (w64 (s59.1 + s59.2))))) (rvk_conv (k := .i64) (k' := .u64) (a := (w64 (s59.1 + s59.2))) Tryz.underlying3 Tryz.underlying111 rfl) ?_))))))))
      refine st (v := (.int .u64 (gshr .u64 (wk .u64 (w64 (s59.1 + s59.2))) 1))) (rvk_shr (k := .u64) (k' := .u64) (a := (wk .u64 (w64 (s59.1 + s59.2)))) (b := 1) rfl rfl (by decide)) ?_
      refine st (v := (I (wk .i64 (gshr .u64 (wk .u64 (w64 (s59.1 + s59.2))) 1)))) (rvk_conv (k := .u64) (k' := .i64) (a := (gshr .u64 (wk .u64 (w64 (s59.1 + s59.2))) 1)) Tryz.underlying111 Tryz.underlying3 rfl) (sa (I (wk .i64 (gshr .u64 (wk .u64 (w64 (s59.1 + s59.2))) 1))) rfl (w_end (q_then (c_seq ?_))))
      refine rgP (σ := σ60) 9 (by kernel_rfl) (by kernel_rfl) (by kernel_rfl) ?_
      refine sq (v := (.func (.func 64) #[] #[(pt Hf Hg), (pt Hn Ho)])) (rv_move rfl) (sq (v := (Sl El Ek Em)) (rv_move rfl) (sq (v := (I Ht)) (rv_move rfl) ?_))
      revert h; refine br fun x62 hx63 h => ?_
      obtain ⟨b65, o66, hi64, -⟩ := (H.own 0 rfl).ix hx63
      refine sq (v := (pt b65 o66)) (rv_ix Tryz.underlying24 ti3 rfl rfl hi64) ?_
      have hc67 := ((H.own 0 rfl).at hx63 hi64).int
      refine sq (v := (I x62)) (rv_load1 Tryz.underlying3 rfl rfl hc67) (sq (v := (Sl El Ek Em)) (rv_move rfl) (sq (v := (I (wk .i64 (gshr .u64 (wk .u64 (w64 (s59.1 + s59.2))) 1)))) (rv_move rfl) ?_))
      revert h; refine br fun x68 hx69 h => ?_
      obtain ⟨b71, o72, hi70, -⟩ := (H.own 0 rfl).ix hx69
      refine sq (v := (pt b71 o72)) (rv_ix Tryz.underlying24 ti3 rfl rfl hi70) ?_
      have hc73 := ((H.own 0 rfl).at hx69 hi70).int
      refine sq (v := (I x68)) (rv_load1 Tryz.underlying3 rfl rfl hc73) (sq_end ?_)
      intro σ74 hm75
      replace H := H.grow (hm75.mono fun _ h => h); clear hm75
      revert h; refine br fun r76 hx77 h => ?_
      have hc78 := c_impl_ProbeOrder_1__p_SSint__p24 (Fu := He) (Fv := Hf) (Fw := Hg) (Fx := Hi) (Fy := Hj) (Fs := Hc) (Ft := Hd) (Gc := Hm) (Gd := Hn) (Ge := Ho) (Gf := Hq) (Gg := Hr) (Ga := Hk) (Gb := Hl) hx77
      refine st_call (cx_call hc78 (ent_v (cap := [(pt Hf Hg), (pt Hn Ho)]) hc78.fn rfl rfl) hn0 (H.sel' [2, 1, 4, 3, 0, 1, 3] rfl rfl : Hp S0 σ0 _ ([_, _, _, _] ++ _))) wn ?_
      rintro _ σ79 ⟨_, ⟨rfl, rfl⟩, H, -⟩
      replace H : Hp _ _ _ [_, _, _, _, _] := H
      refine st (v := (B (decide (r76 < 0)))) (rv_lss (a := r76) (b := 0) rfl rfl) (st (v := (B (!(decide (r76 < 0))))) (rv_not rfl) (w_end (q_then ?_)))
      refine cd_cond (!(decide (r76 < 0))) rfl (fun hb80 => ?_) (fun hb80 => ?_)
      ·replace h := bif_t hb80 h
       refine rg (sm (I (wk .i64 (gshr .u64 (wk .u64 (w64 (s59.1 + s59.2))) 1))) rfl (st (v := (I (w64 ((wk .i64 (gshr .u64 (wk .u64 (w64 (s59.1 + s59.2))) 1)) + 1)))) (rv_add (a := (wk .i64 (gshr .u64 (wk .u64 (w64 (s59.1 + s59.2))) 1))) (b := 1) rfl rfl) (sa (I (w64 ((wk .i64 (gshr .u64 (wk .u64 (w64 (s59.1 + s59.2))) 1)) + 1))) rfl (w_end (q_blk (q_then ?_))))))
       obtain rfl := sj h
       exact ⟨_, rfl, _, σ79, fr_join ⟨rfl, rfl, rfl, rfl, rfl, trivial⟩, rfl, H.sel' [2, 3, 0, 4, 1] rfl rfl⟩
      ·replace h := bif_f hb80 h
       refine rg (sm (I (wk .i64 (gshr .u64 (wk .u64 (w64 (s59.1 + s59.2))) 1))) rfl (sa (I (wk .i64 (gshr .u64 (wk .u64 (w64 (s59.1 + s59.2))) 1))) rfl (w_end (q_blk (q_then ?_)))))
       obtain rfl := sj h
       exact ⟨_, rfl, _, σ79, fr_join ⟨rfl, rfl, rfl, rfl, rfl, trivial⟩, rfl, H.sel' [2, 3, 0, 4, 1] rfl rfl⟩
     ·replace h := bif_f hb61 h
      refine c_exit (q_then_x (q_then_x (q_blk_hit ?_)))
      obtain rfl := sj h
      obtain rfl := hres _ rfl
      exact ⟨rfl, _, σ60, fr_join ⟨rfl, rfl, rfl, rfl, trivial⟩, rfl, H.sel' [0, 1, 2, 3, 4] rfl rfl⟩
    ·clear hj
     have h := h'
     clear h' H
     rintro e a w ⟨rfl, ρ, σ81, rfl, rfl, H⟩
     refine q_then (c_seq (c_seq (rg (sm (I Ht) rfl (sa (I Ht) rfl (w_end (q_then ?_)))))))
     obtain ⟨o82, hj, h'⟩ := bind_some h
     clear h
     refine c_cut (fun e a w => e = .normal ∧ ∃ (ρ : Nat → Value) (σ : St), a = fr 220 (updL ρ [(0, (Sl El o82 Em)), (4, (.func (.func 64) #[] #[(pt Hf Hg), (pt Hn Ho)]))]) ∧ w = σ.w ∧ Hp S0 σ0 σ [Ch.own 0 0 (Sl El o82 Em) o82, Ch.ro 0 (Sl Hc Gz Hd) Gz, Ch.bx He Hf Hg [(Sl Hc Gz Hd)] Hi Hj, Ch.ro 0 (Sl Hk Ha Hl) Ha, Ch.bx Hm Hn Ho [(Sl Hk Ha Hl)] Hq Hr] ∧ o82.length = Ek.length) ?_ ?_
     ·clear h'
      rename _ = some o82 => h
      refine c_blk (wp_loopM _ h (fun s83 a w => ∃ (ρ : Nat → Value) (σ : St), a = fr 220 (updL ρ [(0, (Sl El s83.1 Em)), (4, (.func (.func 64) #[] #[(pt Hf Hg), (pt Hn Ho)])), (14, (I o58)), (17, (I s83.2))]) ∧ w = σ.w ∧ Hp S0 σ0 σ [Ch.own 0 0 (Sl El s83.1 Em) s83.1, Ch.ro 0 (Sl Hc Gz Hd) Gz, Ch.bx He Hf Hg [(Sl Hc Gz Hd)] Hi Hj, Ch.ro 0 (Sl Hk Ha Hl) Ha, Ch.bx Hm Hn Ho [(Sl Hk Ha Hl)] Hq Hr] ∧ s83.1.length = Ek.length) ⟨_, σ81, fr_join ⟨rfl, rfl, rfl, rfl, trivial⟩, rfl, H.sel' [0, 1, 2, 3, 4] rfl rfl, rfl⟩ ?_)
      clear h H
      rintro s83 a w o ⟨ρ, σ84, rfl, rfl, H, hn85⟩ h hres
      refine c_seq (c_seq (rg (sm (I s83.2) rfl (sm (I o58) rfl (st (v := (B (decide (o58 < s83.2)))) (rv_gtr (a := s83.2) (b := o58) rfl rfl) (w_end (q_then ?_)))))))
      refine cd_cond (decide (o58 < s83.2)) rfl (fun hb86 => ?_) (fun hb86 => ?_)
      ·replace h := bif_t hb86 h
       refine c_skip (q_then (c_seq (c_blk ?_)))
       revert h; refine br fun x87 hx88 h => ?_
       obtain ⟨b90, o91, hi89, -⟩ := (H.own 0 rfl).ix hx88
       have hc92 := ((H.own 0 rfl).at hx88 hi89).int
       revert h; refine br fun x93 hx94 h => ?_
       obtain ⟨b96, o97, hi95, -⟩ := (H.own 0 rfl).ix hx94
       have hc98 := ((H.own 0 rfl).at hx94 hi95).int
       revert h; refine br fun x99 hx100 h => ?_
       obtain ⟨b102, o103, hi101, -⟩ := (H.own 0 rfl).ix hx100
       have Hs := H
       refine rg2 (σ := σ84) (Nm := Unit) 16 [15] [[false], [true]] [[(0, 0)], [(0, 0)], [(0, 0), (1, 1)], [(0, 0), (1, 1)], [(0, 0), (1, 1)], [(0, 0)], [(0, 0)], [(0, 0)], [(0, 0)], [(0, 0)], [(0, 0)], [(0, 0)], [(0, 0)], [(0, 0)], [(0, 0)], [(0, 1)]] 1 [fun _ => fun σm => Hp S0 σ0 σm [Ch.own 0 0 (Sl El s83.1 Em) s83.1, Ch.ro 0 (Sl Hc Gz Hd) Gz, Ch.bx He Hf Hg [(Sl Hc Gz Hd)] Hi Hj, Ch.ro 0 (Sl Hk Ha Hl) Ha, Ch.bx Hm Hn Ho [(Sl Hk Ha Hl)] Hq Hr] ∧ Md (cov []) σ84 σm, fun _ => fun σm => Hp S0 σ0 σm [Ch.own 0 0 (Sl El s83.1 Em) (s83.1.set s83.2.toNat x87), Ch.ro 0 (Sl Hc Gz Hd) Gz, Ch.bx He Hf Hg [(Sl Hc Gz Hd)] Hi Hj, Ch.ro 0 (Sl Hk Ha Hl) Ha, Ch.bx Hm Hn Ho [(Sl Hk Ha Hl)] Hq Hr] ∧ Md (fun i => (cov []) i ∨ (fun b => blk (Sl El s83.1 Em) = some b) i) σ84 σm] [fun _ => (Sl El s83.1 Em), fun _ => (I s83.2), fun _ => (Sl El s83.1 Em), fun _ => (I s83.2), fun _ => (I (w64 (s83.2 - 1))), fun _ => (Sl El s83.1 Em), fun _ => (I s83.2), fun _ => (I (w64 (s83.2 - 1))), fun _ => (pt b90 o91), fun _ => (I x87), fun _ => (Sl El s83.1 Em), fun _ => (I s83.2), fun _ => (pt b96 o97), fun _ => (I x93), fun _ => (pt b102 o103), fun _ => undef] () (by kernel_rfl) (by kernel_rfl) ?_ ?_ ?_
       ·intro σm m0
        exact ⟨H.grow (m0.mono fun _ h => h.elim), m0⟩
       ·refine ac rfl (by
          intro k _nm ρ σm hJ hoff hdep
          have e0 := look_off (N := 220) (hoff 0 rfl) rfl
          exact dp_v (v := (Sl El s83.1 Em)) wn (rv_move e0) rfl hJ) ?_
        refine ac rfl (by
          intro k _nm ρ σm hJ hoff hdep
          have e17 := look_off (N := 220) (hoff 17 rfl) rfl
          exact dp_v (v := (I s83.2)) wn (rv_move e17) rfl hJ) ?_
        refine ac rfl (by
          intro k _nm ρ σm hJ hoff hdep
          have e0 := look_off (N := 220) (hoff 0 rfl) rfl
          exact dp_v (v := (Sl El s83.1 Em)) wn (rv_move e0) rfl hJ) ?_
        refine ac rfl (by
          intro k _nm ρ σm hJ hoff hdep
          have e17 := look_off (N := 220) (hoff 17 rfl) rfl
          exact dp_v (v := (I s83.2)) wn (rv_move e17) rfl hJ) ?_
        refine ac rfl (by
          intro k _nm ρ σm hJ hoff hdep
          have e116 := hdep 3 rfl rfl 116 rfl
          exact dp_v (v := (I (w64 (s83.2 - 1)))) wn (rv_sub (a := s83.2) (b := 1) e116 rfl) rfl hJ) ?_
        refine ac rfl (by
          intro k _nm ρ σm hJ hoff hdep
          have e0 := look_off (N := 220) (hoff 0 rfl) rfl
          exact dp_v (v := (Sl El s83.1 Em)) wn (rv_move e0) rfl hJ) ?_
        refine ac rfl (by
          intro k _nm ρ σm hJ hoff hdep
          have e17 := look_off (N := 220) (hoff 17 rfl) rfl
          exact dp_v (v := (I s83.2)) wn (rv_move e17) rfl hJ) ?_
        refine ac rfl (by
          intro k _nm ρ σm hJ hoff hdep
          have e119 := hdep 6 rfl rfl 119 rfl
          exact dp_v (v := (I (w64 (s83.2 - 1)))) wn (rv_sub (a := s83.2) (b := 1) e119 rfl) rfl hJ) ?_
        refine ac rfl (by
          intro k _nm ρ σm hJ hoff hdep
          have e118 := hdep 5 rfl rfl 118 rfl
          have e120 := hdep 7 rfl rfl 120 rfl
          exact dp_v (v := (pt b90 o91)) wn (rv_ix Tryz.underlying24 ti3 e118 e120 hi89) rfl hJ) ?_
        refine all_cons (by
          refine ⟨?_, ?_⟩
          ·intro _nm ρ σm hJ hoff hdep
           have e121 := hdep 8 rfl rfl 121 rfl
           obtain ⟨H, m⟩ := id hJ
           have hc92 := ((H.own 0 rfl).at hx88 hi89).int
           exact dp_v (v := (I x87)) wn (rv_load1 Tryz.underlying3 rfl e121 hc92) rfl hJ
          trivial) ?_
        refine ac rfl (by
          intro k _nm ρ σm hJ hoff hdep
          have e0 := look_off (N := 220) (hoff 0 rfl) rfl
          exact dp_v (v := (Sl El s83.1 Em)) wn (rv_move e0) rfl hJ) ?_
        refine ac rfl (by
          intro k _nm ρ σm hJ hoff hdep
          have e17 := look_off (N := 220) (hoff 17 rfl) rfl
          exact dp_v (v := (I s83.2)) wn (rv_move e17) rfl hJ) ?_
        refine ac rfl (by
          intro k _nm ρ σm hJ hoff hdep
          have e123 := hdep 10 rfl rfl 123 rfl
          have e124 := hdep 11 rfl rfl 124 rfl
          exact dp_v (v := (pt b96 o97)) wn (rv_ix Tryz.underlying24 ti3 e123 e124 hi95) rfl hJ) ?_
        refine all_cons (by
          refine ⟨?_, ?_⟩
          ·intro _nm ρ σm hJ hoff hdep
           have e125 := hdep 12 rfl rfl 125 rfl
           obtain ⟨H, m⟩ := id hJ
           have hc98 := ((H.own 0 rfl).at hx94 hi95).int
           exact dp_v (v := (I x93)) wn (rv_load1 Tryz.underlying3 rfl e125 hc98) rfl hJ
          trivial) ?_
        refine ac rfl (by
          intro k _nm ρ σm hJ hoff hdep
          have e113 := hdep 0 rfl rfl 113 rfl
          have e114 := hdep 1 rfl rfl 114 rfl
          exact dp_v (v := (pt b102 o103)) wn (rv_ix Tryz.underlying24 ti3 e113 e114 hi101) rfl hJ) ?_
        refine all_cons (by
          refine ⟨?_, ?_⟩
          ·intro _nm ρ σm hJ hoff hdep
           have e127 := hdep 14 rfl rfl 127 rfl
           have e122 := hdep 9 rfl rfl 122 rfl
           obtain ⟨H, m⟩ := id hJ
           refine dp_exS wn rfl (ex_store_own (e' := x87) (vs := [(I x87)]) (k := 0) H (i := 0) rfl ti3 hx100 hi101 e127 rfl e122 rfl rfl (Nat.le_of_ble_eq_true rfl) (by simp [plain]) (by rintro _ rfl; exact rfl)) ?_
           rintro σq ⟨H2, m2⟩
           exact ⟨_, (), rfl, ⟨H2.sel' [0, 1, 2, 3, 4] rfl rfl, m.comp m2⟩, stab [0, 1, 2, 3, 4, 5, 6, 7, 8, 9, 10, 11, 12, 13, 14] (by kernel_rfl) ⟨rfl, rfl, rfl, rfl, rfl, rfl, rfl, rfl, rfl, rfl, rfl, rfl, rfl, rfl, rfl, trivial⟩⟩
          trivial) ?_
        exact all_nil
       ·intro _nm ρ σ104 hJ hoff hrel
        have e0 := look_off (N := 220) (hoff 0 rfl) rfl
        have e4 := look_off (N := 220) (hoff 4 rfl) rfl
        have e14 := look_off (N := 220) (hoff 14 rfl) rfl
        have e17 := look_off (N := 220) (hoff 17 rfl) rfl
        have e115 := hrel 2 rfl 115 rfl
        have e117 := hrel 4 rfl 117 rfl
        have e126 := hrel 13 rfl 126 rfl
        obtain ⟨H, -⟩ := (show Hp S0 σ0 σ104 [Ch.own 0 0 (Sl El s83.1 Em) (s83.1.set s83.2.toNat x87), Ch.ro 0 (Sl Hc Gz Hd) Gz, Ch.bx He Hf Hg [(Sl Hc Gz Hd)] Hi Hj, Ch.ro 0 (Sl Hk Ha Hl) Ha, Ch.bx Hm Hn Ho [(Sl Hk Ha Hl)] Hq Hr] ∧ Md (fun i => (cov []) i ∨ (fun b => blk (Sl El s83.1 Em) = some b) i) σ84 σ104 from hJ)
        clear hJ Hs
        rw [fr_lookL (L := [(0, (Sl El s83.1 Em)), (4, (.func (.func 64) #[] #[(pt Hf Hg), (pt Hn Ho)])), (14, (I o58)), (17, (I s83.2)), (115, (Sl El s83.1 Em)), (117, (I (w64 (s83.2 - 1)))), (126, (I x93))]) ⟨e0, e4, e14, e17, e115, e117, e126, trivial⟩]
        clear hoff hrel e0 e4 e14 e17 e115 e117 e126
        have hsl : (Sl El s83.1 Em) = (Sl El (s83.1.set s83.2.toNat x87) Em) := sl_len (by simp)
        rw [hsl]; rw [hsl] at H; clear hsl
        revert h; refine br fun x105 hx106 h => ?_
        obtain ⟨b108, o109, hi107, -⟩ := (H.own 0 rfl).ix hx106
        refine st (v := (pt b108 o109)) (rv_ix Tryz.underlying24 ti3 rfl rfl hi107) ?_
        refine st_exS (ex_store_own (e' := x93) (vs := [(I x93)]) (k := 0) H (i := 0) rfl ti3 hx106 hi107 rfl rfl rfl rfl rfl (Nat.le_of_ble_eq_true rfl) (by simp [plain]) (by rintro _ rfl; exact rfl)) wn ?_
        rintro σ110 ⟨H, -⟩
        have hsl : (Sl El (s83.1.set s83.2.toNat x87) Em) = (Sl El ((s83.1.set s83.2.toNat x87).set (w64 (s83.2 - 1)).toNat x93) Em) := sl_len List.length_set.symm
        rw [hsl]; rw [hsl] at H; clear hsl
        refine w_end (q_blk (q_then (rg (sm (I s83.2) rfl (st (v := (I (w64 (s83.2 - 1)))) (rv_sub (a := s83.2) (b := 1) rfl rfl) (sa (I (w64 (s83.2 - 1))) rfl (w_end (q_then ?_))))))))
        obtain rfl := sj h
        exact ⟨_, rfl, _, σ110, fr_join ⟨rfl, rfl, rfl, rfl, trivial⟩, rfl, H.sel' [0, 1, 2, 3, 4] rfl rfl, (List.length_set.trans (List.length_set.trans hn85))⟩
      ·replace h := bif_f hb86 h
       refine c_exit (q_then_x (q_then_x (q_blk_hit ?_)))
       obtain rfl := sj h
       obtain rfl := hres _ rfl
       exact ⟨rfl, _, σ84, fr_join ⟨rfl, rfl, trivial⟩, rfl, H.sel' [0, 1, 2, 3, 4] rfl rfl, hn85⟩
     ·clear hj
      have h := h'
      clear h' H
      rintro e a w ⟨rfl, ρ, σ111, rfl, rfl, H, hn112⟩
      refine q_then (c_ret (q_then_r ?_))
      obtain rfl := sj h
      exact fin_ret (v := (.tuple #[])) (results_ok Tryz.results83 res_nil rfl) ⟨rfl, rfl, hn112⟩ (H.sel' [0, 2, 4] rfl rfl)
   ·replace h := bif_f hb57 h
    refine c_skip (q_then (c_seq (rg (sm (I Bf) rfl (sm (I Hu) rfl (st (v := (I (w64 (Bf + Hu)))) (rv_add (a := Bf) (b := Hu) rfl rfl) (st (v := (.int .u64 (wk .u64 (w64 (Bf + Hu))))) (rvk_conv (k := .i64) (k' := .u64) (a := (w64 (Bf + Hu))) Tryz.underlying3 Tryz.underlying111 rfl) ?_)))))))
    refine st (v := (.int .u64 (gshr .u64 (wk .u64 (w64 (Bf + Hu))) 1))) (rvk_shr (k := .u64) (k' := .u64) (a := (wk .u64 (w64 (Bf + Hu)))) (b := 1) rfl rfl (by decide)) ?_
    refine st (v := (I (wk .i64 (gshr .u64 (wk .u64 (w64 (Bf + Hu))) 1)))) (rvk_conv (k := .u64) (k' := .i64) (a := (gshr .u64 (wk .u64 (w64 (Bf + Hu))) 1)) Tryz.underlying111 Tryz.underlying3 rfl) (sa (I (wk .i64 (gshr .u64 (wk .u64 (w64 (Bf + Hu))) 1))) rfl (w_end (q_then (c_seq (rg (sm (I (wk .i64 (gshr .u64 (wk .u64 (w64 (Bf + Hu))) 1))) rfl (sm (I Ht) rfl (st (v := (I (w64 ((wk .i64 (gshr .u64 (wk .u64 (w64 (Bf + Hu))) 1)) + Ht)))) (rv_add (a := (wk .i64 (gshr .u64 (wk .u64 (w64 (Bf + Hu))) 1))) (b := Ht) rfl rfl) (sa (I (w64 ((wk .i64 (gshr .u64 (wk .u64 (w64 (Bf + Hu))) 1)) + Ht))) rfl (w_end (q_then ?_)))))))))))
    refine c_seq (rg (sa (I 0) rfl (sa (I 0) rfl (w_end (q_then (c_seq (c_seq (rg (sm (I Ht) rfl (sm (I (wk .i64 (gshr .u64 (wk .u64 (w64 (Bf + Hu))) 1))) rfl (st (v := (B (decide ((wk .i64 (gshr .u64 (wk .u64 (w64 (Bf + Hu))) 1)) < Ht)))) (rv_gtr (a := Ht) (b := (wk .i64 (gshr .u64 (wk .u64 (w64 (Bf + Hu))) 1))) rfl rfl) ?_)))))))))))
    refine w_end (q_then ?_)
    obtain ⟨o113, hj, h'⟩ := bind_some h
    clear h
    refine c_cut (fun e a w => e = .normal ∧ ∃ (ρ : Nat → Value) (σ : St), a = fr 220 (updL ρ [(0, (Sl El Ek Em)), (1, (I Bf)), (2, (I Ht)), (3, (I Hu)), (4, (.func (.func 64) #[] #[(pt Hf Hg), (pt Hn Ho)])), (18, (I (wk .i64 (gshr .u64 (wk .u64 (w64 (Bf + Hu))) 1)))), (19, (I (w64 ((wk .i64 (gshr .u64 (wk .u64 (w64 (Bf + Hu))) 1)) + Ht)))), (20, (I o113.1)), (21, (I o113.2))]) ∧ w = σ.w ∧ Hp S0 σ0 σ [Ch.own 0 0 (Sl El Ek Em) Ek, Ch.ro 0 (Sl Hc Gz Hd) Gz, Ch.bx He Hf Hg [(Sl Hc Gz Hd)] Hi Hj, Ch.ro 0 (Sl Hk Ha Hl) Ha, Ch.bx Hm Hn Ho [(Sl Hk Ha Hl)] Hq Hr]) ?_ ?_
    ·clear h'
     rename _ = some o113 => h
     refine cd_cond (decide ((wk .i64 (gshr .u64 (wk .u64 (w64 (Bf + Hu))) 1)) < Ht)) rfl (fun hb114 => ?_) (fun hb114 => ?_)
     ·replace h := bif_t hb114 h
      refine c_seq (rg (sm (I (w64 ((wk .i64 (gshr .u64 (wk .u64 (w64 (Bf + Hu))) 1)) + Ht))) rfl (sm (I Hu) rfl (st (v := (I (w64 ((w64 ((wk .i64 (gshr .u64 (wk .u64 (w64 (Bf + Hu))) 1)) + Ht)) - Hu)))) (rv_sub (a := (w64 ((wk .i64 (gshr .u64 (wk .u64 (w64 (Bf + Hu))) 1)) + Ht))) (b := Hu) rfl rfl) (sa (I (w64 ((w64 ((wk .i64 (gshr .u64 (wk .u64 (w64 (Bf + Hu))) 1)) + Ht)) - Hu))) rfl (w_end (q_then (rg (sm (I (wk .i64 (gshr .u64 (wk .u64 (w64 (Bf + Hu))) 1))) rfl (sa (I (wk .i64 (gshr .u64 (wk .u64 (w64 (Bf + Hu))) 1))) rfl (w_end ?_)))))))))))
      obtain rfl := sj h
      exact ⟨rfl, _, σ0, fr_join ⟨rfl, rfl, rfl, rfl, rfl, rfl, rfl, rfl, rfl, trivial⟩, rfl, H.sel' [0, 2, 1, 4, 3] rfl rfl⟩
     ·replace h := bif_f hb114 h
      refine c_seq (rg (sm (I Bf) rfl (sa (I Bf) rfl (w_end (q_then (rg (sm (I Ht) rfl (sa (I Ht) rfl (w_end ?_)))))))))
      obtain rfl := sj h
      exact ⟨rfl, _, σ0, fr_join ⟨rfl, rfl, rfl, rfl, rfl, rfl, rfl, rfl, rfl, trivial⟩, rfl, H.sel' [0, 2, 1, 4, 3] rfl rfl⟩
    ·clear hj
     have h := h'
     clear h' H
     rintro e a w ⟨rfl, ρ, σ115, rfl, rfl, H⟩
     refine q_then (c_seq (rg (sm (I (w64 ((wk .i64 (gshr .u64 (wk .u64 (w64 (Bf + Hu))) 1)) + Ht))) rfl (st (v := (I (w64 ((w64 ((wk .i64 (gshr .u64 (wk .u64 (w64 (Bf + Hu))) 1)) + Ht)) - 1)))) (rv_sub (a := (w64 ((wk .i64 (gshr .u64 (wk .u64 (w64 (Bf + Hu))) 1)) + Ht))) (b := 1) rfl rfl) (sa (I (w64 ((w64 ((wk .i64 (gshr .u64 (wk .u64 (w64 (Bf + Hu))) 1)) + Ht)) - 1))) rfl (w_end (q_then (c_seq ?_))))))))
     obtain ⟨o116, hj, h'⟩ := bind_some h
     clear h
     refine c_cut (fun e a w => e = .normal ∧ ∃ (ρ : Nat → Value) (σ : St), a = fr 220 (updL ρ [(0, (Sl El Ek Em)), (1, (I Bf)), (2, (I Ht)), (3, (I Hu)), (4, (.func (.func 64) #[] #[(pt Hf Hg), (pt Hn Ho)])), (18, (I (wk .i64 (gshr .u64 (wk .u64 (w64 (Bf + Hu))) 1)))), (19, (I (w64 ((wk .i64 (gshr .u64 (wk .u64 (w64 (Bf + Hu))) 1)) + Ht)))), (20, (I o116))]) ∧ w = σ.w ∧ Hp S0 σ0 σ [Ch.own 0 0 (Sl El Ek Em) Ek, Ch.ro 0 (Sl Hc Gz Hd) Gz, Ch.bx He Hf Hg [(Sl Hc Gz Hd)] Hi Hj, Ch.ro 0 (Sl Hk Ha Hl) Ha, Ch.bx Hm Hn Ho [(Sl Hk Ha Hl)] Hq Hr]) ?_ ?_
     ·clear h'
      rename _ = some o116 => h
      refine c_blk (wp_loopM _ h (fun s117 a w => ∃ (ρ : Nat → Value) (σ : St), a = fr 220 (updL ρ [(0, (Sl El Ek Em)), (1, (I Bf)), (2, (I Ht)), (3, (I Hu)), (4, (.func (.func 64) #[] #[(pt Hf Hg), (pt Hn Ho)])), (18, (I (wk .i64 (gshr .u64 (wk .u64 (w64 (Bf + Hu))) 1)))), (19, (I (w64 ((wk .i64 (gshr .u64 (wk .u64 (w64 (Bf + Hu))) 1)) + Ht)))), (20, (I s117.1)), (21, (I s117.2)), (22, (I (w64 ((w64 ((wk .i64 (gshr .u64 (wk .u64 (w64 (Bf + Hu))) 1)) + Ht)) - 1))))]) ∧ w = σ.w ∧ Hp S0 σ0 σ [Ch.own 0 0 (Sl El Ek Em) Ek, Ch.ro 0 (Sl Hc Gz Hd) Gz, Ch.bx He Hf Hg [(Sl Hc Gz Hd)] Hi Hj, Ch.ro 0 (Sl Hk Ha Hl) Ha, Ch.bx Hm Hn Ho [(Sl Hk Ha Hl)] Hq Hr]) ⟨_, σ115, fr_join ⟨rfl, rfl, rfl, rfl, rfl, rfl, rfl, rfl, rfl, rfl, trivial⟩, rfl, H.sel' [0, 1, 2, 3, 4] rfl rfl⟩ ?_)
      clear h H
      rintro s117 a w o ⟨ρ, σ118, rfl, rfl, H⟩ h hres
      refine c_seq (c_seq (rg (sm (I s117.1) rfl (sm (I s117.2) rfl (st (v := (B (decide (s117.1 < s117.2)))) (rv_lss (a := s117.1) (b := s117.2) rfl rfl) (w_end (q_then ?_)))))))
      refine cd_cond (decide (s117.1 < s117.2)) rfl (fun hb119 => ?_) (fun hb119 => ?_)
      ·replace h := bif_t hb119 h
       refine c_skip (q_then (c_blk (c_seq (rg (sm (I s117.1) rfl (sm (I s117.2) rfl (st (v := (I (w64 (s117.1 + s117.2)))) (rv_add (a := s117.1) (b := s117.2) rfl rfl) (st (v := (.int .u64 (wk .u64 (w64 (s117.1 + s117.2))))) (rvk_conv (k := .i64) (k' := .u64) (a := (w64 (s117.1 + s117.2))) Tryz.underlying3 Tryz.underlying111 rfl) ?_))))))))
       refine st (v := (.int .u64 (gshr .u64 (wk .u64 (w64 (s117.1 + s117.2))) 1))) (rvk_shr (k := .u64) (k' := .u64) (a := (wk .u64 (w64 (s117.1 + s117.2)))) (b := 1) rfl rfl (by decide)) ?_
       refine st (v := (I (wk .i64 (gshr .u64 (wk .u64 (w64 (s117.1 + s117.2))) 1)))) (rvk_conv (k := .u64) (k' := .i64) (a := (gshr .u64 (wk .u64 (w64 (s117.1 + s117.2))) 1)) Tryz.underlying111 Tryz.underlying3 rfl) (sa (I (wk .i64 (gshr .u64 (wk .u64 (w64 (s117.1 + s117.2))) 1))) rfl (w_end (q_then (c_seq ?_))))
       refine rgP (σ := σ118) 11 (by kernel_rfl) (by kernel_rfl) (by kernel_rfl) ?_
       refine sq (v := (.func (.func 64) #[] #[(pt Hf Hg), (pt Hn Ho)])) (rv_move rfl) (sq (v := (Sl El Ek Em)) (rv_move rfl) (sq (v := (I (w64 ((w64 ((wk .i64 (gshr .u64 (wk .u64 (w64 (Bf + Hu))) 1)) + Ht)) - 1)))) (rv_move rfl) (sq (v := (I (wk .i64 (gshr .u64 (wk .u64 (w64 (s117.1 + s117.2))) 1)))) (rv_move rfl) (sq (v := (I (w64 ((w64 ((w64 ((wk .i64 (gshr .u64 (wk .u64 (w64 (Bf + Hu))) 1)) + Ht)) - 1)) - (wk .i64 (gshr .u64 (wk .u64 (w64 (s117.1 + s117.2))) 1)))))) (rv_sub (a := (w64 ((w64 ((wk .i64 (gshr .u64 (wk .u64 (w64 (Bf + Hu))) 1)) + Ht)) - 1))) (b := (wk .i64 (gshr .u64 (wk .u64 (w64 (s117.1 + s117.2))) 1))) rfl rfl) ?_))))
       revert h; refine br fun x120 hx121 h => ?_
       obtain ⟨b123, o124, hi122, -⟩ := (H.own 0 rfl).ix hx121
       refine sq (v := (pt b123 o124)) (rv_ix Tryz.underlying24 ti3 rfl rfl hi122) ?_
       have hc125 := ((H.own 0 rfl).at hx121 hi122).int
       refine sq (v := (I x120)) (rv_load1 Tryz.underlying3 rfl rfl hc125) (sq (v := (Sl El Ek Em)) (rv_move rfl) (sq (v := (I (wk .i64 (gshr .u64 (wk .u64 (w64 (s117.1 + s117.2))) 1)))) (rv_move rfl) ?_))
       revert h; refine br fun x126 hx127 h => ?_
       obtain ⟨b129, o130, hi128, -⟩ := (H.own 0 rfl).ix hx127
       refine sq (v := (pt b129 o130)) (rv_ix Tryz.underlying24 ti3 rfl rfl hi128) ?_
       have hc131 := ((H.own 0 rfl).at hx127 hi128).int
       refine sq (v := (I x126)) (rv_load1 Tryz.underlying3 rfl rfl hc131) (sq_end ?_)
       intro σ132 hm133
       replace H := H.grow (hm133.mono fun _ h => h); clear hm133
       revert h; refine br fun r134 hx135 h => ?_
       have hc136 := c_impl_ProbeOrder_1__p_SSint__p24 (Fu := He) (Fv := Hf) (Fw := Hg) (Fx := Hi) (Fy := Hj) (Fs := Hc) (Ft := Hd) (Gc := Hm) (Gd := Hn) (Ge := Ho) (Gf := Hq) (Gg := Hr) (Ga := Hk) (Gb := Hl) hx135
       refine st_call (cx_call hc136 (ent_v (cap := [(pt Hf Hg), (pt Hn Ho)]) hc136.fn rfl rfl) hn0 (H.sel' [2, 1, 4, 3, 0, 1, 3] rfl rfl : Hp S0 σ0 _ ([_, _, _, _] ++ _))) wn ?_
       rintro _ σ137 ⟨_, ⟨rfl, rfl⟩, H, -⟩
       replace H : Hp _ _ _ [_, _, _, _, _] := H
       refine st (v := (B (decide (r134 < 0)))) (rv_lss (a := r134) (b := 0) rfl rfl) (st (v := (B (!(decide (r134 < 0))))) (rv_not rfl) (w_end (q_then ?_)))
       refine cd_cond (!(decide (r134 < 0))) rfl (fun hb138 => ?_) (fun hb138 => ?_)
       ·replace h := bif_t hb138 h
        refine rg (sm (I (wk .i64 (gshr .u64 (wk .u64 (w64 (s117.1 + s117.2))) 1))) rfl (st (v := (I (w64 ((wk .i64 (gshr .u64 (wk .u64 (w64 (s117.1 + s117.2))) 1)) + 1)))) (rv_add (a := (wk .i64 (gshr .u64 (wk .u64 (w64 (s117.1 + s117.2))) 1))) (b := 1) rfl rfl) (sa (I (w64 ((wk .i64 (gshr .u64 (wk .u64 (w64 (s117.1 + s117.2))) 1)) + 1))) rfl (w_end (q_blk (q_then ?_))))))
        obtain rfl := sj h
        exact ⟨_, rfl, _, σ137, fr_join ⟨rfl, rfl, rfl, rfl, rfl, rfl, rfl, rfl, rfl, rfl, trivial⟩, rfl, H.sel' [2, 3, 0, 4, 1] rfl rfl⟩
       ·replace h := bif_f hb138 h
        refine rg (sm (I (wk .i64 (gshr .u64 (wk .u64 (w64 (s117.1 + s117.2))) 1))) rfl (sa (I (wk .i64 (gshr .u64 (wk .u64 (w64 (s117.1 + s117.2))) 1))) rfl (w_end (q_blk (q_then ?_)))))
        obtain rfl := sj h
        exact ⟨_, rfl, _, σ137, fr_join ⟨rfl, rfl, rfl, rfl, rfl, rfl, rfl, rfl, rfl, rfl, trivial⟩, rfl, H.sel' [2, 3, 0, 4, 1] rfl rfl⟩
      ·replace h := bif_f hb119 h
       refine c_exit (q_then_x (q_then_x (q_blk_hit ?_)))
       obtain rfl := sj h
       obtain rfl := hres _ rfl
       exact ⟨rfl, _, σ118, fr_join ⟨rfl, rfl, rfl, rfl, rfl, rfl, rfl, rfl, trivial⟩, rfl, H.sel' [0, 1, 2, 3, 4] rfl rfl⟩
     ·clear hj
      have h := h'
      clear h' H
      rintro e a w ⟨rfl, ρ, σ139, rfl, rfl, H⟩
      refine q_then (c_seq (rg (sm (I (w64 ((wk .i64 (gshr .u64 (wk .u64 (w64 (Bf + Hu))) 1)) + Ht))) rfl (sm (I o116) rfl (st (v := (I (w64 ((w64 ((wk .i64 (gshr .u64 (wk .u64 (w64 (Bf + Hu))) 1)) + Ht)) - o116)))) (rv_sub (a := (w64 ((wk .i64 (gshr .u64 (wk .u64 (w64 (Bf + Hu))) 1)) + Ht))) (b := o116) rfl rfl) (sa (I (w64 ((w64 ((wk .i64 (gshr .u64 (wk .u64 (w64 (Bf + Hu))) 1)) + Ht)) - o116))) rfl (w_end (q_then (c_seq (c_seq ?_))))))))))
      obtain ⟨o140, hj, h'⟩ := bind_some h
      clear h
      refine c_cut (fun e a w => e = .normal ∧ ∃ (ρ : Nat → Value) (σ : St), a = fr 220 (updL ρ [(0, (Sl El Ek Em)), (1, (I Bf)), (2, (I Ht)), (3, (I Hu)), (4, (.func (.func 64) #[] #[(pt Hf Hg), (pt Hn Ho)])), (18, (I (wk .i64 (gshr .u64 (wk .u64 (w64 (Bf + Hu))) 1)))), (20, (I o116)), (24, (I (w64 ((w64 ((wk .i64 (gshr .u64 (wk .u64 (w64 (Bf + Hu))) 1)) + Ht)) - o116)))), (185, (B o140))]) ∧ w = σ.w ∧ Hp S0 σ0 σ [Ch.own 0 0 (Sl El Ek Em) Ek, Ch.ro 0 (Sl Hc Gz Hd) Gz, Ch.bx He Hf Hg [(Sl Hc Gz Hd)] Hi Hj, Ch.ro 0 (Sl Hk Ha Hl) Ha, Ch.bx Hm Hn Ho [(Sl Hk Ha Hl)] Hq Hr]) ?_ ?_
      ·clear h'
       rename _ = some o140 => h
       refine rg (sm (I o116) rfl (sm (I Ht) rfl (st (v := (B (decide (o116 < Ht)))) (rv_lss (a := o116) (b := Ht) rfl rfl) (sm (B (decide (o116 < Ht))) rfl ?_))))
       rcases Bool.eq_false_or_eq_true (decide (o116 < Ht)) with hb141 | hb141
       ·replace h := bif_t hb141 h
        refine st_g (v := (I Ht)) (congrArg some hb141) (rv_move rfl) (st_g (v := (I (w64 ((w64 ((wk .i64 (gshr .u64 (wk .u64 (w64 (Bf + Hu))) 1)) + Ht)) - o116)))) (congrArg some hb141) (rv_move rfl) (st_g (v := (B (decide (Ht < (w64 ((w64 ((wk .i64 (gshr .u64 (wk .u64 (w64 (Bf + Hu))) 1)) + Ht)) - o116)))))) (congrArg some hb141) (rv_lss (a := Ht) (b := (w64 ((w64 ((wk .i64 (gshr .u64 (wk .u64 (w64 (Bf + Hu))) 1)) + Ht)) - o116))) rfl rfl) (st (v := (B (decide (Ht < (w64 ((w64 ((wk .i64 (gshr .u64 (wk .u64 (w64 (Bf + Hu))) 1)) + Ht)) - o116)))))) (rv_pick_t (congrArg B hb141) rfl) (w_end ?_))))
        obtain rfl := sj h
        exact ⟨rfl, _, σ139, fr_join ⟨rfl, rfl, rfl, rfl, rfl, rfl, rfl, rfl, rfl, trivial⟩, rfl, H.sel' [0, 1, 2, 3, 4] rfl rfl⟩
       ·replace h := bif_f hb141 h
        refine st_skip (congrArg some hb141) (st_skip (congrArg some hb141) (st_skip (congrArg some hb141) (st (v := (B false)) (rv_pick_f (congrArg B hb141) rfl) (w_end ?_))))
        obtain rfl := sj h
        exact ⟨rfl, _, σ139, fr_join ⟨rfl, rfl, rfl, rfl, rfl, rfl, rfl, rfl, rfl, trivial⟩, rfl, H.sel' [0, 1, 2, 3, 4] rfl rfl⟩
      ·clear hj
       have h := h'
       clear h' H
       rintro e a w ⟨rfl, ρ, σ142, rfl, rfl, H⟩
       refine q_then ?_
       obtain ⟨o143, hj, h'⟩ := bind_some h
       clear h
       refine c_cut (fun e a w => e = .normal ∧ ∃ (ρ : Nat → Value) (σ : St), a = fr 220 (updL ρ [(0, (Sl El o143 Em)), (1, (I Bf)), (3, (I Hu)), (4, (.func (.func 64) #[] #[(pt Hf Hg), (pt Hn Ho)])), (18, (I (wk .i64 (gshr .u64 (wk .u64 (w64 (Bf + Hu))) 1)))), (20, (I o116)), (24, (I (w64 ((w64 ((wk .i64 (gshr .u64 (wk .u64 (w64 (Bf + Hu))) 1)) + Ht)) - o116))))]) ∧ w = σ.w ∧ Hp S0 σ0 σ [Ch.own 0 0 (Sl El o143 Em) o143, Ch.ro 0 (Sl Hc Gz Hd) Gz, Ch.bx He Hf Hg [(Sl Hc Gz Hd)] Hi Hj, Ch.ro 0 (Sl Hk Ha Hl) Ha, Ch.bx Hm Hn Ho [(Sl Hk Ha Hl)] Hq Hr] ∧ o143.length = Ek.length) ?_ ?_
       ·clear h'
        rename _ = some o143 => h
        refine cd_cond o140 rfl (fun hb144 => ?_) (fun hb144 => ?_)
        ·replace h := bif_t hb144 h
         refine rg (sm (Sl El Ek Em) rfl (sm (I o116) rfl (sm (I Ht) rfl (sm (I (w64 ((w64 ((wk .i64 (gshr .u64 (wk .u64 (w64 (Bf + Hu))) 1)) + Ht)) - o116))) rfl (sm (.func (.func 64) #[] #[(pt Hf Hg), (pt Hn Ho)]) rfl ?_)))))
         revert h; refine br fun r145 hx146 h => ?_
         have hc147 := c_slices_rotateCmpFunc_int__impl_ProbeOrder_1 (El := El) (Em := Em) (He := He) (Hf := Hf) (Hg := Hg) (Hi := Hi) (Hj := Hj) (Hc := Hc) (Hd := Hd) (Hm := Hm) (Hn := Hn) (Ho := Ho) (Hq := Hq) (Hr := Hr) (Hk := Hk) (Hl := Hl) hx146
         refine st_call (cx_call hc147 (ent_f hc147.fn rfl) hn0 (H.sel' [0, 2, 1, 4, 3, 1, 3] rfl rfl : Hp S0 σ0 _ ([_, _, _, _, _] ++ _))) wn ?_
         rintro _ σ149 ⟨_, ⟨rfl, rfl, hn148⟩, H, -⟩
         replace H : Hp _ _ _ [_, _, _, _, _] := H
         have hsl : (Sl El Ek Em) = (Sl El r145 Em) := sl_len hn148.symm
         try rw [hsl]
         try rw [hsl] at H
         clear hsl
         refine w_end ?_
         obtain rfl := sj h
         exact ⟨rfl, _, σ149, fr_join ⟨rfl, rfl, rfl, rfl, rfl, rfl, rfl, trivial⟩, rfl, H.sel' [0, 3, 1, 4, 2] rfl rfl, hn148⟩
        ·replace h := bif_f hb144 h
         refine c_skip ?_
         obtain rfl := sj h
         exact ⟨rfl, _, σ142, fr_join ⟨rfl, rfl, rfl, rfl, rfl, rfl, rfl, trivial⟩, rfl, H.sel' [0, 1, 2, 3, 4] rfl rfl, rfl⟩
       ·clear hj
        have h := h'
        clear h' H
        rintro e a w ⟨rfl, ρ, σ150, rfl, rfl, H, hn151⟩
        refine q_then (c_seq (c_seq ?_))
        obtain ⟨o152, hj, h'⟩ := bind_some h
        clear h
        refine c_cut (fun e a w => e = .normal ∧ ∃ (ρ : Nat → Value) (σ : St), a = fr 220 (updL ρ [(0, (Sl El o143 Em)), (1, (I Bf)), (3, (I Hu)), (4, (.func (.func 64) #[] #[(pt Hf Hg), (pt Hn Ho)])), (18, (I (wk .i64 (gshr .u64 (wk .u64 (w64 (Bf + Hu))) 1)))), (20, (I o116)), (24, (I (w64 ((w64 ((wk .i64 (gshr .u64 (wk .u64 (w64 (Bf + Hu))) 1)) + Ht)) - o116)))), (199, (B o152))]) ∧ w = σ.w ∧ Hp S0 σ0 σ [Ch.own 0 0 (Sl El o143 Em) o143, Ch.ro 0 (Sl Hc Gz Hd) Gz, Ch.bx He Hf Hg [(Sl Hc Gz Hd)] Hi Hj, Ch.ro 0 (Sl Hk Ha Hl) Ha, Ch.bx Hm Hn Ho [(Sl Hk Ha Hl)] Hq Hr]) ?_ ?_
        ·clear h'
         rename _ = some o152 => h
         refine rg (sm (I Bf) rfl (sm (I o116) rfl (st (v := (B (decide (Bf < o116)))) (rv_lss (a := Bf) (b := o116) rfl rfl) (sm (B (decide (Bf < o116))) rfl ?_))))
         rcases Bool.eq_false_or_eq_true (decide (Bf < o116)) with hb153 | hb153
         ·replace h := bif_t hb153 h
          refine st_g (v := (I o116)) (congrArg some hb153) (rv_move rfl) (st_g (v := (I (wk .i64 (gshr .u64 (wk .u64 (w64 (Bf + Hu))) 1)))) (congrArg some hb153) (rv_move rfl) (st_g (v := (B (decide (o116 < (wk .i64 (gshr .u64 (wk .u64 (w64 (Bf + Hu))) 1)))))) (congrArg some hb153) (rv_lss (a := o116) (b := (wk .i64 (gshr .u64 (wk .u64 (w64 (Bf + Hu))) 1))) rfl rfl) (st (v := (B (decide (o116 < (wk .i64 (gshr .u64 (wk .u64 (w64 (Bf + Hu))) 1)))))) (rv_pick_t (congrArg B hb153) rfl) (w_end ?_))))
          obtain rfl := sj h
          exact ⟨rfl, _, σ150, fr_join ⟨rfl, rfl, rfl, rfl, rfl, rfl, rfl, rfl, trivial⟩, rfl, H.sel' [0, 1, 2, 3, 4] rfl rfl⟩
         ·replace h := bif_f hb153 h
          refine st_skip (congrArg some hb153) (st_skip (congrArg some hb153) (st_skip (congrArg some hb153) (st (v := (B false)) (rv_pick_f (congrArg B hb153) rfl) (w_end ?_))))
          obtain rfl := sj h
          exact ⟨rfl, _, σ150, fr_join ⟨rfl, rfl, rfl, rfl, rfl, rfl, rfl, rfl, trivial⟩, rfl, H.sel' [0, 1, 2, 3, 4] rfl rfl⟩
        ·clear hj
         have h := h'
         clear h' H
         rintro e a w ⟨rfl, ρ, σ154, rfl, rfl, H⟩
         refine q_then ?_
         obtain ⟨o155, hj, h'⟩ := bind_some h
         clear h
         refine c_cut (fun e a w => e = .normal ∧ ∃ (ρ : Nat → Value) (σ : St), a = fr 220 (updL ρ [(0, (Sl El o155 Em)), (3, (I Hu)), (4, (.func (.func 64) #[] #[(pt Hf Hg), (pt Hn Ho)])), (18, (I (wk .i64 (gshr .u64 (wk .u64 (w64 (Bf + Hu))) 1)))), (24, (I (w64 ((w64 ((wk .i64 (gshr .u64 (wk .u64 (w64 (Bf + Hu))) 1)) + Ht)) - o116))))]) ∧ w = σ.w ∧ Hp S0 σ0 σ [Ch.own 0 0 (Sl El o155 Em) o155, Ch.ro 0 (Sl Hc Gz Hd) Gz, Ch.bx He Hf Hg [(Sl Hc Gz Hd)] Hi Hj, Ch.ro 0 (Sl Hk Ha Hl) Ha, Ch.bx Hm Hn Ho [(Sl Hk Ha Hl)] Hq Hr] ∧ o155.length = o143.length) ?_ ?_
         ·clear h'
          rename _ = some o155 => h
          refine cd_cond o152 rfl (fun hb156 => ?_) (fun hb156 => ?_)
          ·replace h := bif_t hb156 h
           refine rg (sm (Sl El o143 Em) rfl (sm (I Bf) rfl (sm (I o116) rfl (sm (I (wk .i64 (gshr .u64 (wk .u64 (w64 (Bf + Hu))) 1))) rfl (sm (.func (.func 64) #[] #[(pt Hf Hg), (pt Hn Ho)]) rfl ?_)))))
           revert h; refine br fun r157 hx158 h => ?_
           have hc159 := ih (El := El) (Em := Em) (He := He) (Hf := Hf) (Hg := Hg) (Hi := Hi) (Hj := Hj) (Hc := Hc) (Hd := Hd) (Hm := Hm) (Hn := Hn) (Ho := Ho) (Hq := Hq) (Hr := Hr) (Hk := Hk) (Hl := Hl) hx158
           refine st_call (cx_call hc159 (ent_f hc159.fn rfl) hn0 (H.sel' [0, 2, 1, 4, 3, 1, 3] rfl rfl : Hp S0 σ0 _ ([_, _, _, _, _] ++ _))) wn ?_
           rintro _ σ161 ⟨_, ⟨rfl, rfl, hn160⟩, H, -⟩
           replace H : Hp _ _ _ [_, _, _, _, _] := H
           have hsl : (Sl El o143 Em) = (Sl El r157 Em) := sl_len hn160.symm
           try rw [hsl]
           try rw [hsl] at H
           clear hsl
           refine w_end ?_
           obtain rfl := sj h
           exact ⟨rfl, _, σ161, fr_join ⟨rfl, rfl, rfl, rfl, rfl, trivial⟩, rfl, H.sel' [0, 3, 1, 4, 2] rfl rfl, ((hn160.trans hn151).trans hn151.symm)⟩
          ·replace h := bif_f hb156 h
           refine c_skip ?_
           obtain rfl := sj h
           exact ⟨rfl, _, σ154, fr_join ⟨rfl, rfl, rfl, rfl, rfl, trivial⟩, rfl, H.sel' [0, 1, 2, 3, 4] rfl rfl, rfl⟩
         ·clear hj
          have h := h'
          clear h' H
          rintro e a w ⟨rfl, ρ, σ162, rfl, rfl, H, hn163⟩
          refine q_then (c_seq ?_)
          obtain ⟨o164, hj, h'⟩ := bind_some h
          clear h
          refine c_cut (fun e a w => e = .normal ∧ ∃ (ρ : Nat → Value) (σ : St), a = fr 220 (updL ρ [(0, (Sl El o155 Em)), (3, (I Hu)), (4, (.func (.func 64) #[] #[(pt Hf Hg), (pt Hn Ho)])), (18, (I (wk .i64 (gshr .u64 (wk .u64 (w64 (Bf + Hu))) 1)))), (24, (I (w64 ((w64 ((wk .i64 (gshr .u64 (wk .u64 (w64 (Bf + Hu))) 1)) + Ht)) - o116)))), (213, (B o164))]) ∧ w = σ.w ∧ Hp S0 σ0 σ [Ch.own 0 0 (Sl El o155 Em) o155, Ch.ro 0 (Sl Hc Gz Hd) Gz, Ch.bx He Hf Hg [(Sl Hc Gz Hd)] Hi Hj, Ch.ro 0 (Sl Hk Ha Hl) Ha, Ch.bx Hm Hn Ho [(Sl Hk Ha Hl)] Hq Hr]) ?_ ?_
          ·clear h'
           rename _ = some o164 => h
           refine rg (sm (I (wk .i64 (gshr .u64 (wk .u64 (w64 (Bf + Hu))) 1))) rfl (sm (I (w64 ((w64 ((wk .i64 (gshr .u64 (wk .u64 (w64 (Bf + Hu))) 1)) + Ht)) - o116))) rfl (st (v := (B (decide ((wk .i64 (gshr .u64 (wk .u64 (w64 (Bf + Hu))) 1)) < (w64 ((w64 ((wk .i64 (gshr .u64 (wk .u64 (w64 (Bf + Hu))) 1)) + Ht)) - o116)))))) (rv_lss (a := (wk .i64 (gshr .u64 (wk .u64 (w64 (Bf + Hu))) 1))) (b := (w64 ((w64 ((wk .i64 (gshr .u64 (wk .u64 (w64 (Bf + Hu))) 1)) + Ht)) - o116))) rfl rfl) (sm (B (decide ((wk .i64 (gshr .u64 (wk .u64 (w64 (Bf + Hu))) 1)) < (w64 ((w64 ((wk .i64 (gshr .u64 (wk .u64 (w64 (Bf + Hu))) 1)) + Ht)) - o116))))) rfl ?_))))
           rcases Bool.eq_false_or_eq_true (decide ((wk .i64 (gshr .u64 (wk .u64 (w64 (Bf + Hu))) 1)) < (w64 ((w64 ((wk .i64 (gshr .u64 (wk .u64 (w64 (Bf + Hu))) 1)) + Ht)) - o116)))) with hb165 | hb165
           ·replace h := bif_t hb165 h
            refine st_g (v := (I (w64 ((w64 ((wk .i64 (gshr .u64 (wk .u64 (w64 (Bf + Hu))) 1)) + Ht)) - o116)))) (congrArg some hb165) (rv_move rfl) (st_g (v := (I Hu)) (congrArg some hb165) (rv_move rfl) (st_g (v := (B (decide ((w64 ((w64 ((wk .i64 (gshr .u64 (wk .u64 (w64 (Bf + Hu))) 1)) + Ht)) - o116)) < Hu)))) (congrArg some hb165) (rv_lss (a := (w64 ((w64 ((wk .i64 (gshr .u64 (wk .u64 (w64 (Bf + Hu))) 1)) + Ht)) - o116))) (b := Hu) rfl rfl) (st (v := (B (decide ((w64 ((w64 ((wk .i64 (gshr .u64 (wk .u64 (w64 (Bf + Hu))) 1)) + Ht)) - o116)) < Hu)))) (rv_pick_t (congrArg B hb165) rfl) (w_end ?_))))
            obtain rfl := sj h
            exact ⟨rfl, _, σ162, fr_join ⟨rfl, rfl, rfl, rfl, rfl, rfl, trivial⟩, rfl, H.sel' [0, 1, 2, 3, 4] rfl rfl⟩
           ·replace h := bif_f hb165 h
            refine st_skip (congrArg some hb165) (st_skip (congrArg some hb165) (st_skip (congrArg some hb165) (st (v := (B false)) (rv_pick_f (congrArg B hb165) rfl) (w_end ?_))))
            obtain rfl := sj h
            exact ⟨rfl, _, σ162, fr_join ⟨rfl, rfl, rfl, rfl, rfl, rfl, trivial⟩, rfl, H.sel' [0, 1, 2, 3, 4] rfl rfl⟩
          ·clear hj
           have h := h'
           clear h' H
           rintro e a w ⟨rfl, ρ, σ166, rfl, rfl, H⟩
           refine q_then ?_
           refine cd_cond o164 rfl (fun hb167 => ?_) (fun hb167 => ?_)
           ·replace h := bif_t hb167 h
            refine rg (sm (Sl El o155 Em) rfl (sm (I (wk .i64 (gshr .u64 (wk .u64 (w64 (Bf + Hu))) 1))) rfl (sm (I (w64 ((w64 ((wk .i64 (gshr .u64 (wk .u64 (w64 (Bf + Hu))) 1)) + Ht)) - o116))) rfl (sm (I Hu) rfl (sm (.func (.func 64) #[] #[(pt Hf Hg), (pt Hn Ho)]) rfl ?_)))))
            revert h; refine br fun r168 hx169 h => ?_
            have hc170 := ih (El := El) (Em := Em) (He := He) (Hf := Hf) (Hg := Hg) (Hi := Hi) (Hj := Hj) (Hc := Hc) (Hd := Hd) (Hm := Hm) (Hn := Hn) (Ho := Ho) (Hq := Hq) (Hr := Hr) (Hk := Hk) (Hl := Hl) hx169
            refine st_call (cx_call hc170 (ent_f hc170.fn rfl) hn0 (H.sel' [0, 2, 1, 4, 3, 1, 3] rfl rfl : Hp S0 σ0 _ ([_, _, _, _, _] ++ _))) wn ?_
            rintro _ σ172 ⟨_, ⟨rfl, rfl, hn171⟩, H, -⟩
            replace H : Hp _ _ _ [_, _, _, _, _] := H
            have hsl : (Sl El o155 Em) = (Sl El r168 Em) := sl_len hn171.symm
            try rw [hsl]
            try rw [hsl] at H
            clear hsl
            refine w_end ?_
            obtain rfl := sj h
            exact fin_end (v := (.tuple #[])) (results_ok Tryz.results83 res_nil rfl) ⟨rfl, rfl, (hn171.trans (hn163.trans hn151))⟩ (H.sel' [0, 1, 2] rfl rfl)
           ·replace h := bif_f hb167 h
            refine c_skip ?_
            obtain rfl := sj h
            exact fin_end (v := (.tuple #[])) (results_ok Tryz.results83 res_nil rfl) ⟨rfl, rfl, (hn163.trans hn151)⟩ (H.sel' [0, 2, 4] rfl rfl)

theorem c_slices_stableCmpFunc_int__impl_ProbeOrder_1 {Ek : List Int} {Bs : Int} {Hv : List (List Int)} {Hw : List Int} {El : Option Addr} {Em : Nat} {Hx : Option Addr} {Hy : Nat} {Hz Ja Jb : Nat} {Jc Jd : List Value} {Je : Option Addr} {Jf : Nat} {Jg Jh Ji : Nat} {Jj Jk : List Value} {r : (List Int)} (h : M.slices_stableCmpFunc_int__impl_ProbeOrder_1 Ek Bs Hv Hw = some r) :
    Cal2 Tryz.prog 77 [(Sl El Ek Em), (I Bs), (.func (.func 64) #[] #[(pt Ja Jb), (pt Jh Ji)])] [Ch.own 0 0 (Sl El Ek Em) Ek, Ch.bx Hz Ja Jb [(Sl Hx Hv Hy)] Jc Jd, Ch.ro 0 (Sl Hx Hv Hy) Hv, Ch.bx Jg Jh Ji [(Sl Je Hw Jf)] Jj Jk, Ch.ro 0 (Sl Je Hw Jf) Hw] (fun n0 v L => v = (.tuple #[]) ∧ L = [Ch.own 0 0 (Sl El r Em) r, Ch.bx Hz Ja Jb [(Sl Hx Hv Hy)] Jc Jd, Ch.bx Jg Jh Ji [(Sl Je Hw Jf)] Jj Jk] ∧ r.length = Ek.length) := by
 refine cal2 (n := 63) Tryz.func77 rfl rfl rfl rfl ?_
 intro S0 σ0 n0 hn0 H
 unfold M.slices_stableCmpFunc_int__impl_ProbeOrder_1 at h
 refine c_seq (rg (sa (I 20) rfl (w_end (q_then (c_seq (rg (sm (I 20) rfl (sa (I 0) rfl (sa (I 20) rfl (w_end (q_then ?_)))))))))))
 refine c_seq ?_
 obtain ⟨o1, hj, h'⟩ := bind_some h
 clear h
 refine c_cut (fun e a w => e = .normal ∧ ∃ (ρ : Nat → Value) (σ : St), a = fr 63 (updL ρ [(0, (Sl El o1.1 Em)), (1, (I Bs)), (2, (.func (.func 64) #[] #[(pt Ja Jb), (pt Jh Ji)])), (6, (I 20)), (7, (I o1.2))]) ∧ w = σ.w ∧ Hp S0 σ0 σ [Ch.own 0 0 (Sl El o1.1 Em) o1.1, Ch.ro 0 (Sl Hx Hv Hy) Hv, Ch.bx Hz Ja Jb [(Sl Hx Hv Hy)] Jc Jd, Ch.ro 0 (Sl Je Hw Jf) Hw, Ch.bx Jg Jh Ji [(Sl Je Hw Jf)] Jj Jk] ∧ o1.1.length = Ek.length) ?_ ?_
 ·clear h'
  rename _ = some o1 => h
  refine c_blk (wp_loopM _ h (fun s2 a w => ∃ (ρ : Nat → Value) (σ : St), a = fr 63 (updL ρ [(0, (Sl El s2.1 Em)), (1, (I Bs)), (2, (.func (.func 64) #[] #[(pt Ja Jb), (pt Jh Ji)])), (6, (I 20)), (7, (I s2.2.1)), (8, (I s2.2.2))]) ∧ w = σ.w ∧ Hp S0 σ0 σ [Ch.own 0 0 (Sl El s2.1 Em) s2.1, Ch.ro 0 (Sl Hx Hv Hy) Hv, Ch.bx Hz Ja Jb [(Sl Hx Hv Hy)] Jc Jd, Ch.ro 0 (Sl Je Hw Jf) Hw, Ch.bx Jg Jh Ji [(Sl Je Hw Jf)] Jj Jk] ∧ s2.1.length = Ek.length) ⟨_, σ0, fr_join ⟨rfl, rfl, rfl, rfl, rfl, rfl, trivial⟩, rfl, H.sel' [0, 2, 1, 4, 3] rfl rfl, rfl⟩ ?_)
  clear h H
  rintro s2 a w o ⟨ρ, σ3, rfl, rfl, H, hn4⟩ h hres
  refine c_seq (c_seq (rg (sm (I s2.2.2) rfl (sm (I Bs) rfl (st (v := (B (decide (s2.2.2 ≤ Bs)))) (rv_leq (a := s2.2.2) (b := Bs) rfl rfl) (w_end (q_then ?_)))))))
  refine cd_cond (decide (s2.2.2 ≤ Bs)) rfl (fun hb5 => ?_) (fun hb5 => ?_)
  ·replace h := bif_t hb5 h
   refine c_skip (q_then (c_blk (c_seq (rg (sm (Sl El s2.1 Em) rfl (sm (I s2.2.1) rfl (sm (I s2.2.2) rfl (sm (.func (.func 64) #[] #[(pt Ja Jb), (pt Jh Ji)]) rfl ?_))))))))
   revert h; refine br fun r6 hx7 h => ?_
   have hc8 := c_slices_insertionSortCmpFunc_int__impl_ProbeOrder_1 (El := El) (Em := Em) (Gl := Hz) (Gm := Ja) (Gn := Jb) (Gp := Jc) (Gq := Jd) (Gj := Hx) (Gk := Hy) (Gt := Jg) (Gu := Jh) (Gv := Ji) (Gw := Jj) (Gx := Jk) (Gr := Je) (Gs := Jf) hx7
   refine st_call (cx_call hc8 (ent_f hc8.fn rfl) hn0 (H.sel' [0, 2, 1, 4, 3, 1, 3] rfl rfl : Hp S0 σ0 _ ([_, _, _, _, _] ++ _))) wn ?_
   rintro _ σ10 ⟨_, ⟨rfl, rfl, hn9⟩, H, -⟩
   replace H : Hp _ _ _ [_, _, _, _, _] := H
   have hsl : (Sl El s2.1 Em) = (Sl El r6 Em) := sl_len hn9.symm
   try rw [hsl]
   try rw [hsl] at H
   clear hsl
   refine w_end (q_then (c_seq (rg (sm (I s2.2.2) rfl (sa (I s2.2.2) rfl (w_end (q_then (rg (sm (I s2.2.2) rfl (sm (I 20) rfl (st (v := (I (w64 (s2.2.2 + 20)))) (rv_add (a := s2.2.2) (b := 20) rfl rfl) ?_)))))))))))
   refine sa (I (w64 (s2.2.2 + 20))) rfl (w_end (q_blk (q_then ?_)))
   obtain rfl := sj h
   exact ⟨_, rfl, _, σ10, fr_join ⟨rfl, rfl, rfl, rfl, rfl, rfl, trivial⟩, rfl, H.sel' [0, 3, 1, 4, 2] rfl rfl, (hn9.trans hn4)⟩
  ·replace h := bif_f hb5 h
   refine c_exit (q_then_x (q_then_x (q_blk_hit ?_)))
   obtain rfl := sj h
   obtain rfl := hres _ rfl
   exact ⟨rfl, _, σ3, fr_join ⟨rfl, rfl, rfl, rfl, rfl, trivial⟩, rfl, H.sel' [0, 1, 2, 3, 4] rfl rfl, hn4⟩
 ·clear hj
  have h := h'
  clear h' H
  rintro e a w ⟨rfl, ρ, σ11, rfl, rfl, H, hn12⟩
  refine q_then (c_seq (rg (sm (Sl El o1.1 Em) rfl (sm (I o1.2) rfl (sm (I Bs) rfl (sm (.func (.func 64) #[] #[(pt Ja Jb), (pt Jh Ji)]) rfl ?_))))))
  revert h; refine br fun r13 hx14 h => ?_
  have hc15 := c_slices_insertionSortCmpFunc_int__impl_ProbeOrder_1 (El := El) (Em := Em) (Gl := Hz) (Gm := Ja) (Gn := Jb) (Gp := Jc) (Gq := Jd) (Gj := Hx) (Gk := Hy) (Gt := Jg) (Gu := Jh) (Gv := Ji) (Gw := Jj) (Gx := Jk) (Gr := Je) (Gs := Jf) hx14
  refine st_call (cx_call hc15 (ent_f hc15.fn rfl) hn0 (H.sel' [0, 2, 1, 4, 3, 1, 3] rfl rfl : Hp S0 σ0 _ ([_, _, _, _, _] ++ _))) wn ?_
  rintro _ σ17 ⟨_, ⟨rfl, rfl, hn16⟩, H, -⟩
  replace H : Hp _ _ _ [_, _, _, _, _] := H
  have hsl : (Sl El o1.1 Em) = (Sl El r13 Em) := sl_len hn16.symm
  try rw [hsl]
  try rw [hsl] at H
  clear hsl
  refine w_end (q_then ?_)
  obtain ⟨o18, hj, h'⟩ := bind_some h
  clear h
  refine c_cut (fun e a w => e = .normal ∧ ∃ (ρ : Nat → Value) (σ : St), a = fr 63 (updL ρ [(0, (Sl El o18 Em)), (2, (.func (.func 64) #[] #[(pt Ja Jb), (pt Jh Ji)]))]) ∧ w = σ.w ∧ Hp S0 σ0 σ [Ch.own 0 0 (Sl El o18 Em) o18, Ch.ro 0 (Sl Hx Hv Hy) Hv, Ch.bx Hz Ja Jb [(Sl Hx Hv Hy)] Jc Jd, Ch.ro 0 (Sl Je Hw Jf) Hw, Ch.bx Jg Jh Ji [(Sl Je Hw Jf)] Jj Jk] ∧ o18.length = r13.length) ?_ ?_
  ·clear h'
   rename _ = some o18 => h
   refine c_blk (wp_loopM _ h (fun s19 a w => ∃ (ρ : Nat → Value) (σ : St), a = fr 63 (updL ρ [(0, (Sl El s19.1 Em)), (1, (I Bs)), (2, (.func (.func 64) #[] #[(pt Ja Jb), (pt Jh Ji)])), (6, (I s19.2))]) ∧ w = σ.w ∧ Hp S0 σ0 σ [Ch.own 0 0 (Sl El s19.1 Em) s19.1, Ch.ro 0 (Sl Hx Hv Hy) Hv, Ch.bx Hz Ja Jb [(Sl Hx Hv Hy)] Jc Jd, Ch.ro 0 (Sl Je Hw Jf) Hw, Ch.bx Jg Jh Ji [(Sl Je Hw Jf)] Jj Jk] ∧ s19.1.length = r13.length) ⟨_, σ17, fr_join ⟨rfl, rfl, rfl, rfl, trivial⟩, rfl, H.sel' [0, 3, 1, 4, 2] rfl rfl, rfl⟩ ?_)
   clear h H
   rintro s19 a w o ⟨ρ, σ20, rfl, rfl, H, hn21⟩ h hres
   refine c_seq (c_seq (rg (sm (I s19.2) rfl (sm (I Bs) rfl (st (v := (B (decide (s19.2 < Bs)))) (rv_lss (a := s19.2) (b := Bs) rfl rfl) (w_end (q_then ?_)))))))
   refine cd_cond (decide (s19.2 < Bs)) rfl (fun hb22 => ?_) (fun hb22 => ?_)
   ·replace h := bif_t hb22 h
    refine c_skip (q_then (c_blk (c_seq (rg (sm (I s19.2) rfl (st (v := (I (w64 (2 * s19.2)))) (rv_mul (a := 2) (b := s19.2) rfl rfl) (sa (I 0) rfl (sa (I (w64 (2 * s19.2))) rfl (w_end (q_then (c_seq ?_)))))))))))
    obtain ⟨o23, hj, h'⟩ := bind_some h
    clear h
    refine c_cut (fun e a w => e = .normal ∧ ∃ (ρ : Nat → Value) (σ : St), a = fr 63 (updL ρ [(0, (Sl El o23.1 Em)), (1, (I Bs)), (2, (.func (.func 64) #[] #[(pt Ja Jb), (pt Jh Ji)])), (6, (I s19.2)), (7, (I o23.2))]) ∧ w = σ.w ∧ Hp S0 σ0 σ [Ch.own 0 0 (Sl El o23.1 Em) o23.1, Ch.ro 0 (Sl Hx Hv Hy) Hv, Ch.bx Hz Ja Jb [(Sl Hx Hv Hy)] Jc Jd, Ch.ro 0 (Sl Je Hw Jf) Hw, Ch.bx Jg Jh Ji [(Sl Je Hw Jf)] Jj Jk] ∧ o23.1.length = s19.1.length) ?_ ?_
    ·clear h'
     rename _ = some o23 => h
     refine c_blk (wp_loopM _ h (fun s24 a w => ∃ (ρ : Nat → Value) (σ : St), a = fr 63 (updL ρ [(0, (Sl El s24.1 Em)), (1, (I Bs)), (2, (.func (.func 64) #[] #[(pt Ja Jb), (pt Jh Ji)])), (6, (I s19.2)), (7, (I s24.2.1)), (8, (I s24.2.2))]) ∧ w = σ.w ∧ Hp S0 σ0 σ [Ch.own 0 0 (Sl El s24.1 Em) s24.1, Ch.ro 0 (Sl Hx Hv Hy) Hv, Ch.bx Hz Ja Jb [(Sl Hx Hv Hy)] Jc Jd, Ch.ro 0 (Sl Je Hw Jf) Hw, Ch.bx Jg Jh Ji [(Sl Je Hw Jf)] Jj Jk] ∧ s24.1.length = s19.1.length) ⟨_, σ20, fr_join ⟨rfl, rfl, rfl, rfl, rfl, rfl, trivial⟩, rfl, H.sel' [0, 1, 2, 3, 4] rfl rfl, rfl⟩ ?_)
     clear h H
     rintro s24 a w o ⟨ρ, σ25, rfl, rfl, H, hn26⟩ h hres
     refine c_seq (c_seq (rg (sm (I s24.2.2) rfl (sm (I Bs) rfl (st (v := (B (decide (s24.2.2 ≤ Bs)))) (rv_leq (a := s24.2.2) (b := Bs) rfl rfl) (w_end (q_then ?_)))))))
     refine cd_cond (decide (s24.2.2 ≤ Bs)) rfl (fun hb27 => ?_) (fun hb27 => ?_)
     ·replace h := bif_t hb27 h
      refine c_skip (q_then (c_blk (c_seq (rg (sm (Sl El s24.1 Em) rfl (sm (I s24.2.1) rfl (sm (I s24.2.1) rfl (sm (I s19.2) rfl (st (v := (I (w64 (s24.2.1 + s19.2)))) (rv_add (a := s24.2.1) (b := s19.2) rfl rfl) (sm (I s24.2.2) rfl (sm (.func (.func 64) #[] #[(pt Ja Jb), (pt Jh Ji)]) rfl ?_)))))))))))
      revert h; refine br fun r28 hx29 h => ?_
      have hc30 := c_slices_symMergeCmpFunc_int__impl_ProbeOrder_1 100 (El := El) (Em := Em) (He := Hz) (Hf := Ja) (Hg := Jb) (Hi := Jc) (Hj := Jd) (Hc := Hx) (Hd := Hy) (Hm := Jg) (Hn := Jh) (Ho := Ji) (Hq := Jj) (Hr := Jk) (Hk := Je) (Hl := Jf) hx29
      refine st_call (cx_call hc30 (ent_f hc30.fn rfl) hn0 (H.sel' [0, 2, 1, 4, 3, 1, 3] rfl rfl : Hp S0 σ0 _ ([_, _, _, _, _] ++ _))) wn ?_
      rintro _ σ32 ⟨_, ⟨rfl, rfl, hn31⟩, H, -⟩
      replace H : Hp _ _ _ [_, _, _, _, _] := H
      have hsl : (Sl El s24.1 Em) = (Sl El r28 Em) := sl_len hn31.symm
      try rw [hsl]
      try rw [hsl] at H
      clear hsl
      refine w_end (q_then (c_seq (rg (sm (I s24.2.2) rfl (sa (I s24.2.2) rfl (w_end (q_then (rg (sm (I s24.2.2) rfl (sm (I s19.2) rfl (st (v := (I (w64 (2 * s19.2)))) (rv_mul (a := 2) (b := s19.2) rfl rfl) ?_)))))))))))
      refine st (v := (I (w64 (s24.2.2 + (w64 (2 * s19.2)))))) (rv_add (a := s24.2.2) (b := (w64 (2 * s19.2))) rfl rfl) (sa (I (w64 (s24.2.2 + (w64 (2 * s19.2))))) rfl (w_end (q_blk (q_then ?_))))
      obtain rfl := sj h
      exact ⟨_, rfl, _, σ32, fr_join ⟨rfl, rfl, rfl, rfl, rfl, rfl, trivial⟩, rfl, H.sel' [0, 3, 1, 4, 2] rfl rfl, ((hn31.trans (hn26.trans (hn21.trans (hn16.trans hn12)))).trans (hn21.trans (hn16.trans hn12)).symm)⟩
     ·replace h := bif_f hb27 h
      refine c_exit (q_then_x (q_then_x (q_blk_hit ?_)))
      obtain rfl := sj h
      obtain rfl := hres _ rfl
      exact ⟨rfl, _, σ25, fr_join ⟨rfl, rfl, rfl, rfl, rfl, trivial⟩, rfl, H.sel' [0, 1, 2, 3, 4] rfl rfl, ((hn26.trans (hn21.trans (hn16.trans hn12))).trans (hn21.trans (hn16.trans hn12)).symm)⟩
    ·clear hj
     have h := h'
     clear h' H
     rintro e a w ⟨rfl, ρ, σ33, rfl, rfl, H, hn34⟩
     refine q_then (c_seq (c_seq (rg (sm (I o23.2) rfl (sm (I s19.2) rfl (st (v := (I (w64 (o23.2 + s19.2)))) (rv_add (a := o23.2) (b := s19.2) rfl rfl) (sa (I (w64 (o23.2 + s19.2))) rfl (w_end (q_then (c_seq (rg ?_)))))))))))
     refine sm (I (w64 (o23.2 + s19.2))) rfl (sm (I Bs) rfl (st (v := (B (decide ((w64 (o23.2 + s19.2)) < Bs)))) (rv_lss (a := (w64 (o23.2 + s19.2))) (b := Bs) rfl rfl) (w_end (q_then ?_))))
     obtain ⟨o35, hj, h'⟩ := bind_some h
     clear h
     refine c_cut (fun e a w => e = .normal ∧ ∃ (ρ : Nat → Value) (σ : St), a = fr 63 (updL ρ [(0, (Sl El o35 Em)), (1, (I Bs)), (2, (.func (.func 64) #[] #[(pt Ja Jb), (pt Jh Ji)])), (6, (I s19.2))]) ∧ w = σ.w ∧ Hp S0 σ0 σ [Ch.own 0 0 (Sl El o35 Em) o35, Ch.ro 0 (Sl Hx Hv Hy) Hv, Ch.bx Hz Ja Jb [(Sl Hx Hv Hy)] Jc Jd, Ch.ro 0 (Sl Je Hw Jf) Hw, Ch.bx Jg Jh Ji [(Sl Je Hw Jf)] Jj Jk] ∧ o35.length = o23.1.length) ?_ ?_
     ·clear h'
      rename _ = some o35 => h
      refine cd_cond (decide ((w64 (o23.2 + s19.2)) < Bs)) rfl (fun hb36 => ?_) (fun hb36 => ?_)
      ·replace h := bif_t hb36 h
       refine rg (sm (Sl El o23.1 Em) rfl (sm (I o23.2) rfl (sm (I (w64 (o23.2 + s19.2))) rfl (sm (I Bs) rfl (sm (.func (.func 64) #[] #[(pt Ja Jb), (pt Jh Ji)]) rfl ?_)))))
       revert h; refine br fun r37 hx38 h => ?_
       have hc39 := c_slices_symMergeCmpFunc_int__impl_ProbeOrder_1 100 (El := El) (Em := Em) (He := Hz) (Hf := Ja) (Hg := Jb) (Hi := Jc) (Hj := Jd) (Hc := Hx) (Hd := Hy) (Hm := Jg) (Hn := Jh) (Ho := Ji) (Hq := Jj) (Hr := Jk) (Hk := Je) (Hl := Jf) hx38
       refine st_call (cx_call hc39 (ent_f hc39.fn rfl) hn0 (H.sel' [0, 2, 1, 4, 3, 1, 3] rfl rfl : Hp S0 σ0 _ ([_, _, _, _, _] ++ _))) wn ?_
       rintro _ σ41 ⟨_, ⟨rfl, rfl, hn40⟩, H, -⟩
       replace H : Hp _ _ _ [_, _, _, _, _] := H
       have hsl : (Sl El o23.1 Em) = (Sl El r37 Em) := sl_len hn40.symm
       try rw [hsl]
       try rw [hsl] at H
       clear hsl
       refine w_end ?_
       obtain rfl := sj h
       exact ⟨rfl, _, σ41, fr_join ⟨rfl, rfl, rfl, rfl, trivial⟩, rfl, H.sel' [0, 3, 1, 4, 2] rfl rfl, ((hn40.trans (hn34.trans (hn21.trans (hn16.trans hn12)))).trans (hn34.trans (hn21.trans (hn16.trans hn12))).symm)⟩
      ·replace h := bif_f hb36 h
       refine c_skip ?_
       obtain rfl := sj h
       exact ⟨rfl, _, σ33, fr_join ⟨rfl, rfl, rfl, rfl, trivial⟩, rfl, H.sel' [0, 1, 2, 3, 4] rfl rfl, rfl⟩
     ·clear hj
      have h := h'
      clear h' H
      rintro e a w ⟨rfl, ρ, σ42, rfl, rfl, H, hn43⟩
      refine q_then (rg (sm (I s19.2) rfl (st (v := (I (w64 (s19.2 * 2)))) (rv_mul (a := s19.2) (b := 2) rfl rfl) (sa (I (w64 (s19.2 * 2))) rfl (w_end (q_blk (q_then ?_)))))))
      obtain rfl := sj h
      exact ⟨_, rfl, _, σ42, fr_join ⟨rfl, rfl, rfl, rfl, trivial⟩, rfl, H.sel' [0, 1, 2, 3, 4] rfl rfl, ((hn43.trans (hn34.trans (hn21.trans (hn16.trans hn12)))).trans (hn16.trans hn12).symm)⟩
   ·replace h := bif_f hb22 h
    refine c_exit (q_then_x (q_then_x (q_blk_hit ?_)))
    obtain rfl := sj h
    obtain rfl := hres _ rfl
    exact ⟨rfl, _, σ20, fr_join ⟨rfl, rfl, trivial⟩, rfl, H.sel' [0, 1, 2, 3, 4] rfl rfl, ((hn21.trans (hn16.trans hn12)).trans (hn16.trans hn12).symm)⟩
  ·clear hj
   have h := h'
   clear h' H
   rintro e a w ⟨rfl, ρ, σ44, rfl, rfl, H, hn45⟩
   obtain rfl := sj h
   exact fin_end (v := (.tuple #[])) (results_ok Tryz.results77 res_nil rfl) ⟨rfl, rfl, (hn45.trans (hn16.trans hn12))⟩ (H.sel' [0, 2, 4] rfl rfl)

theorem c_slices_SortStableFunc_int_int__impl_ProbeOrder_1 {As : List Int} {Jm : List (List Int)} {Jn : List Int} {Fn : Option Addr} {Fo : Nat} {Jo : Option Addr} {Jp : Nat} {Jq Jr Jt : Nat} {Ju Jv : List Value} {Jw : Option Addr} {Jx : Nat} {Jy Jz Ka : Nat} {Kb Kc : List Value} {r : (List Int)} (h : M.slices_SortStableFunc_int_int__impl_ProbeOrder_1 As Jm Jn = some r) :
    Cal2 Tryz.prog 63 [(Sl Fn As Fo), (.func (.func 64) #[] #[(pt Jr Jt), (pt Jz Ka)])] [Ch.own 0 0 (Sl Fn As Fo) As, Ch.bx Jq Jr Jt [(Sl Jo Jm Jp)] Ju Jv, Ch.ro 0 (Sl Jo Jm Jp) Jm, Ch.bx Jy Jz Ka [(Sl Jw Jn Jx)] Kb Kc, Ch.ro 0 (Sl Jw Jn Jx) Jn] (fun n0 v L => v = (.tuple #[]) ∧ L = [Ch.own 0 0 (Sl Fn r Fo) r, Ch.bx Jq Jr Jt [(Sl Jo Jm Jp)] Ju Jv, Ch.bx Jy Jz Ka [(Sl Jw Jn Jx)] Kb Kc] ∧ r.length = As.length) := by
 refine cal2 (n := 9) Tryz.func63 rfl rfl rfl rfl ?_
 intro S0 σ0 n0 hn0 H
 unfold M.slices_SortStableFunc_int_int__impl_ProbeOrder_1 at h
 refine rg (sm (Sl Fn As Fo) rfl (sm (Sl Fn As Fo) rfl (st (v := (I (As.length : Int))) (rv_len Tryz.underlying24 rfl) (sm (.func (.func 64) #[] #[(pt Jr Jt), (pt Jz Ka)]) rfl ?_))))
 revert h; refine br fun r1 hx2 h => ?_
 have hc3 := c_slices_stableCmpFunc_int__impl_ProbeOrder_1 (El := Fn) (Em := Fo) (Hz := Jq) (Ja := Jr) (Jb := Jt) (Jc := Ju) (Jd := Jv) (Hx := Jo) (Hy := Jp) (Jg := Jy) (Jh := Jz) (Ji := Ka) (Jj := Kb) (Jk := Kc) (Je := Jw) (Jf := Jx) hx2
 refine st_call (cx_call hc3 (ent_f hc3.fn rfl) hn0 (H.sel' [0, 1, 2, 3, 4, 2, 4] rfl rfl : Hp S0 σ0 _ ([_, _, _, _, _] ++ _))) wn ?_
 rintro _ σ5 ⟨_, ⟨rfl, rfl, hn4⟩, H, -⟩
 replace H : Hp _ _ _ [_, _, _, _, _] := H
 have hsl : (Sl Fn As Fo) = (Sl Fn r1 Fo) := sl_len hn4.symm
 try rw [hsl]
 try rw [hsl] at H
 clear hsl
 refine w_end ?_
 obtain rfl := sj h
 exact fin_end (v := (.tuple #[])) (results_ok Tryz.results63 res_nil rfl) ⟨rfl, rfl, hn4⟩ (H.sel' [0, 1, 2] rfl rfl)

theorem c_impl_ProbeOrder {Bl : List (List Int)} {Bm : List Int} {Bn : Int} {Bo : Option Addr} {Bp : Nat} {Bq : Option Addr} {Br : Nat} {r : (List Int)} (h : M.impl_ProbeOrder Bl Bm Bn = some r) :
    Cal2 Tryz.prog 49 [(Sl Bo Bl Bp), (Sl Bq Bm Br), (I Bn)] [Ch.ro 0 (Sl Bo Bl Bp) Bl, Ch.ro 0 (Sl Bq Bm Br) Bm] (fun n0 v L => ∃ (az1 : Option Addr), ∃ (cz2 : Nat), v = (Sl az1 r cz2) ∧ L = [Ch.own 0 n0 (Sl az1 r cz2) r]) := by
 refine cal2 (n := 36) Tryz.func49 rfl rfl rfl rfl ?_
 intro S0 σ0 n0 hn0 H
 unfold M.impl_ProbeOrder at h
 refine c_seq (rg (st_ex (ex_box (cs := [(Sl Bo Bl Bp)]) H hn0 rfl rfl) wn ?_))
 rintro _ σ2 ⟨b1, rfl, H, -⟩
 refine st_ex (ex_box (cs := [(Sl Bq Bm Br)]) H hn0 rfl rfl) wn ?_
 rintro _ σ4 ⟨b3, rfl, H, -⟩
 refine sa (.slice none 0 0) rfl (w_end (q_then (c_seq (c_seq (rg ?_)))))
 have hc5 := H.cell (u := (Sl Bo Bl Bp)) (o' := 0) 1 0 rfl rfl rfl
 refine st (v := (Sl Bo Bl Bp)) (rv_load1 Tryz.underlying22 rfl rfl hc5) ?_
 have hc6 := H.cell (u := (Sl Bq Bm Br)) (o' := 0) 0 0 rfl rfl rfl
 refine st (v := (Sl Bq Bm Br)) (rv_load1 Tryz.underlying24 rfl rfl hc6) (sm (I Bn) rfl ?_)
 revert h; refine br fun r7 hx8 h => ?_
 have hc9 := c_impl_validProbe (Bo := Bo) (Bp := Bp) (Bq := Bq) (Br := Br) hx8
 refine st_call (cx_call hc9 (ent_f hc9.fn rfl) hn0 (H.sel' [2, 3, 0, 1, 2, 3] rfl rfl : Hp S0 σ0 _ ([_, _] ++ _))) wn ?_
 rintro _ σ10 ⟨_, ⟨rfl, rfl⟩, H, -⟩
 replace H : Hp _ _ _ [_, _, _, _] := H
 refine st (v := (B (!r7))) (rv_not rfl) (w_end (q_then ?_))
 refine cd_cond (!r7) rfl (fun hb11 => ?_) (fun hb11 => ?_)
 ·replace h := bif_t hb11 h
  refine c_seq (rg (sa (.slice none 0 0) rfl (w_end (q_then (c_ret (q_then_r ?_))))))
  replace H := H.nilOwn Int 0 n0
  obtain rfl := sj h
  exact fin_ret (v := (.slice none 0 0)) (results_ok Tryz.results49 (res_tmp (v := (.slice none 0 0)) rfl res_nil) rfl) ⟨none, 0, rfl, rfl⟩ (H.sel' [0] rfl rfl)
 ·replace h := bif_f hb11 h
  refine c_skip (q_then (c_seq (rg ?_)))
  have hc12 := H.cell (u := (Sl Bo Bl Bp)) (o' := 0) 1 0 rfl rfl rfl
  refine st (v := (Sl Bo Bl Bp)) (rv_load1 Tryz.underlying22 rfl rfl hc12) (st (v := (I (Bl.length : Int))) (rv_len Tryz.underlying22 rfl) ?_)
  revert h; refine br fun xs13 hx14 h => ?_
  refine st_ex (ex_make (el := n0) (z0 := (0 : Int)) (zs := [(I 0)]) H hn0 Tryz.underlying24 ti3 rfl rfl rfl (by decide) hx14 rfl rfl) wn ?_
  rintro _ σ18 ⟨b15, c16, rfl, ht17, H, -⟩
  replace ht17 := ht17.trans (gmake_len hx14).symm
  refine sa (Sl (some ⟨b15, 0, none⟩) xs13 c16) rfl (w_end (q_then (c_seq (c_seq (rg (sm (Sl (some ⟨b15, 0, none⟩) xs13 c16) rfl (st (v := (I (xs13.length : Int))) (rv_len Tryz.underlying24 rfl) (sm (I 0) rfl (w_end (q_then ?_))))))))))
  obtain ⟨o19, hj, h'⟩ := bind_some h
  clear h
  refine c_cut (fun e a w => e = .normal ∧ ∃ (ρ : Nat → Value) (σ : St), a = fr 36 (updL ρ [(2, (I Bn)), (3, (pt b1 0)), (4, (pt b3 0)), (7, (Sl (some ⟨b15, 0, none⟩) o19 c16))]) ∧ w = σ.w ∧ Hp S0 σ0 σ [Ch.ro 0 (Sl Bo Bl Bp) Bl, Ch.bx n0 b1 0 [(Sl Bo Bl Bp)] [] [], Ch.ro 0 (Sl Bq Bm Br) Bm, Ch.bx n0 b3 0 [(Sl Bq Bm Br)] [] [], Ch.own n0 n0 (Sl (some ⟨b15, 0, none⟩) o19 c16) o19] ∧ c16 = o19.length ∧ o19.length = xs13.length) ?_ ?_
  ·clear h'
   rename _ = some o19 => h
   refine c_blk (wp_loopM _ h (fun s20 a w => ∃ (ρ : Nat → Value) (σ : St), a = fr 36 (updL ρ [(2, (I Bn)), (3, (pt b1 0)), (4, (pt b3 0)), (7, (Sl (some ⟨b15, 0, none⟩) s20.1 c16)), (18, (I (xs13.length : Int))), (19, (I s20.2))]) ∧ w = σ.w ∧ Hp S0 σ0 σ [Ch.ro 0 (Sl Bo Bl Bp) Bl, Ch.bx n0 b1 0 [(Sl Bo Bl Bp)] [] [], Ch.ro 0 (Sl Bq Bm Br) Bm, Ch.bx n0 b3 0 [(Sl Bq Bm Br)] [] [], Ch.own n0 n0 (Sl (some ⟨b15, 0, none⟩) s20.1 c16) s20.1] ∧ c16 = s20.1.length ∧ s20.1.length = xs13.length) ⟨_, σ18, fr_join ⟨rfl, rfl, rfl, rfl, rfl, rfl, trivial⟩, rfl, H.sel' [3, 2, 4, 1, 0] rfl rfl, ht17, rfl⟩ ?_)
   clear h H
   rintro s20 a w o ⟨ρ, σ21, rfl, rfl, H, ht22, hn23⟩ h hres
   refine c_seq (rg (st (v := (B (decide (s20.2 < (xs13.length : Int))))) (rv_lss (a := s20.2) (b := (xs13.length : Int)) rfl rfl) (w_end (q_then (c_seq ?_)))))
   refine cd_cond (decide (s20.2 < (xs13.length : Int))) rfl (fun hb24 => ?_) (fun hb24 => ?_)
   ·replace h := bif_t hb24 h
    refine c_skip (q_then (c_seq (c_blk (c_seq (rg (sm (I s20.2) rfl (sa (I s20.2) rfl (w_end (q_then (rg (sm (Sl (some ⟨b15, 0, none⟩) s20.1 c16) rfl ?_)))))))))))
    refine sm (I s20.2) rfl (sm (I s20.2) rfl ?_)
    revert h; refine br fun x25 hx26 h => ?_
    obtain ⟨b28, o29, hi27, -⟩ := (H.own 4 rfl).ix hx26
    refine st (v := (pt b28 o29)) (rv_ix Tryz.underlying24 ti3 rfl rfl hi27) ?_
    refine st_exS (ex_store_own (e' := s20.2) (vs := [(I s20.2)]) (k := 0) H (i := 4) rfl ti3 hx26 hi27 rfl rfl rfl rfl rfl (Nat.le_of_ble_eq_true rfl) (by simp [plain]) (by rintro _ rfl; exact rfl)) wn ?_
    rintro σ30 ⟨H, -⟩
    have hsl : (Sl (some ⟨b15, 0, none⟩) s20.1 c16) = (Sl (some ⟨b15, 0, none⟩) (s20.1.set s20.2.toNat s20.2) c16) := sl_len List.length_set.symm
    rw [hsl]; rw [hsl] at H; clear hsl
    refine w_end (q_blk (q_then (rg (st (v := (I (w64 (s20.2 + 1)))) (rv_add (a := s20.2) (b := 1) rfl rfl) (sm (I (w64 (s20.2 + 1))) rfl (w_end (q_then ?_)))))))
    obtain rfl := sj h
    exact ⟨_, rfl, _, σ30, fr_join ⟨rfl, rfl, rfl, rfl, rfl, rfl, trivial⟩, rfl, H.sel' [1, 2, 3, 4, 0] rfl rfl, (ht22.trans List.length_set.symm), (List.length_set.trans hn23)⟩
   ·replace h := bif_f hb24 h
    refine c_exit (q_then_x (q_then_x (q_blk_hit ?_)))
    obtain rfl := sj h
    obtain rfl := hres _ rfl
    exact ⟨rfl, _, σ21, fr_join ⟨rfl, rfl, rfl, rfl, trivial⟩, rfl, H.sel' [0, 1, 2, 3, 4] rfl rfl, ht22, hn23⟩
  ·clear hj
   have h := h'
   clear h' H
   rintro e a w ⟨rfl, ρ, σ31, rfl, rfl, H, ht32, hn33⟩
   refine q_then (c_seq (rg (sm (Sl (some ⟨b15, 0, none⟩) o19 c16) rfl (st (v := (.func (.func 64) #[] #[(pt b1 0), (pt b3 0)])) (rv_makeFunc (vs := [(pt b1 0), (pt b3 0)]) rfl) ?_))))
   replace H := H.ownLow 4 0 0 rfl (Nat.zero_le _) (Nat.zero_le _)
   revert h; refine br fun r34 hx35 h => ?_
   have hc36 := c_slices_SortStableFunc_int_int__impl_ProbeOrder_1 (Fn := (some ⟨b15, 0, none⟩)) (Fo := c16) (Jq := n0) (Jr := b1) (Jt := 0) (Ju := []) (Jv := []) (Jo := Bo) (Jp := Bp) (Jy := n0) (Jz := b3) (Ka := 0) (Kb := []) (Kc := []) (Jw := Bq) (Jx := Br) hx35
   refine st_call (cx_call hc36 (ent_f hc36.fn rfl) hn0 (H.sel' [0, 2, 1, 4, 3, 1, 3] rfl rfl : Hp S0 σ0 _ ([_, _, _, _, _] ++ _))) wn ?_
   rintro _ σ38 ⟨_, ⟨rfl, rfl, hn37⟩, H, -⟩
   replace H : Hp _ _ _ [_, _, _, _, _] := H
   have hsl : (Sl (some ⟨b15, 0, none⟩) o19 c16) = (Sl (some ⟨b15, 0, none⟩) r34 c16) := sl_len hn37.symm
   try rw [hsl]
   try rw [hsl] at H
   clear hsl
   refine w_end (q_then (c_seq (rg (sm (Sl (some ⟨b15, 0, none⟩) r34 c16) rfl (sm (I Bn) rfl (sm (Sl (some ⟨b15, 0, none⟩) r34 c16) rfl (st (v := (I (r34.length : Int))) (rv_len Tryz.underlying24 rfl) (st (v := (I (min Bn (r34.length : Int)))) (rv_min rfl rfl) ?_))))))))
   revert h; refine br fun xs39 hx40 h => ?_
   obtain ⟨a41, c42, hs43, hR44, hb45⟩ := (H.own 0 rfl).slice hx40
   replace H := (H.front (i := 0) rfl).turn (d := Ch.own 0 0 (Sl a41 xs39 c42) xs39) (fun _ => hR44) hb45; clear hR44 hb45
   refine st (v := (Sl a41 xs39 c42)) (rv_slice_h Tryz.underlying24 ti3 hs43 rfl rfl) (sa (Sl a41 xs39 c42) rfl (w_end (q_then (c_ret ?_))))
   replace H := H.ownSc 0 0 n0 rfl (Nat.le_refl _)
   obtain rfl := sj h
   exact fin_ret (v := (Sl a41 xs39 c42)) (results_ok Tryz.results49 (res_tmp (v := (Sl a41 xs39 c42)) rfl res_nil) rfl) ⟨a41, c42, rfl, rfl⟩ (H.sel' [0] rfl rfl)

theorem c_impl_probedItems {Bl : List (List Int)} {Bu : List (Int × (List Int) × Int)} {Ay : List Int} {Bv : Int} {Bo : Option Addr} {Bp : Nat} {By : Option Addr} {Bz : Nat} {Az : Option Addr} {Ba : Nat} {r : (List (Int × (List Int) × Int))} (h : M.impl_probedItems Bl Bu Ay Bv = some r) :
    Cal2 Tryz.prog 33 [(Sl Bo Bl Bp), (Sl By Bu Bz), (Sl Az Ay Ba), (I Bv)] [Ch.ro 0 (Sl Bo Bl Bp) Bl, Ch.ro 0 (Sl By Bu Bz) Bu, Ch.ro 0 (Sl Az Ay Ba) Ay] (fun n0 v L => ∃ (az1 : Option Addr), ∃ (cz2 : Nat), v = (Sl az1 r cz2) ∧ L = [Ch.own n0 0 (Sl az1 r cz2) r]) := by
 refine cal2 (n := 32) Tryz.func33 rfl rfl rfl rfl ?_
 intro S0 σ0 n0 hn0 H
 unfold M.impl_probedItems at h
 refine c_seq (rg (sa (.slice none 0 0) rfl (w_end (q_then (c_seq (rg (sm (Sl Bo Bl Bp) rfl (sm (Sl By Bu Bz) rfl ?_))))))))
 revert h; refine br fun r1 hx2 h => ?_
 have hc3 := c_impl_itemsByCentre (Bo := Bo) (Bp := Bp) (By := By) (Bz := Bz) hx2
 refine st_call (cx_call hc3 (ent_f hc3.fn rfl) hn0 (H.sel' [0, 1, 0, 1, 2] rfl rfl : Hp S0 σ0 _ ([_, _] ++ _))) wn ?_
 rintro _ σ7 ⟨_, ⟨b4, K5, rfl, rfl, hK6⟩, H, -⟩
 replace H : Hp _ _ _ [_, _, _, _] := H
 refine sa (.map (some b4)) rfl (w_end (q_then (c_seq (rg (sa (.slice none 0 0) rfl (w_end (q_then (c_seq (c_seq (rg (sm (Sl Bo Bl Bp) rfl ?_)))))))))))
 refine sm (Sl Az Ay Ba) rfl (sm (I Bv) rfl ?_)
 revert h; refine br fun r8 hx9 h => ?_
 have hc10 := c_impl_ProbeOrder (Bo := Bo) (Bp := Bp) (Bq := Az) (Br := Ba) hx9
 refine st_call (cx_call hc10 (ent_f hc10.fn rfl) hn0 (H.sel' [1, 3, 0, 1, 2, 3] rfl rfl : Hp S0 σ0 _ ([_, _] ++ _))) wn ?_
 rintro _ σ13 ⟨_, ⟨a11, c12, rfl, rfl⟩, H, -⟩
 replace H : Hp _ _ _ [_, _, _, _, _] := H
 refine st (v := (I (r8.length : Int))) (rv_len Tryz.underlying24 rfl) (sm (I 0) rfl (w_end (q_then ?_)))
 obtain ⟨o14, hj, h'⟩ := bind_some h
 clear h
 refine c_cut (fun e a w => e = .normal ∧ ∃ (ρ : Nat → Value) (σ : St) (aj1 : Option Addr) (cj2 : Nat), a = fr 32 (updL ρ [(10, (Sl aj1 o14 cj2))]) ∧ w = σ.w ∧ Hp S0 σ0 σ [Ch.own n0 0 (Sl aj1 o14 cj2) o14]) ?_ ?_
 ·clear h'
  rename _ = some o14 => h
  refine c_blk ?_
  obtain ⟨σ16, hw17, H, -⟩ := H.mpPub 1 rfl hK6
  rw [← hw17]; clear hw17
  replace H := H.nilOwn (Int × (List Int) × Int) n0 0
  refine wp_loopM _ h (fun s15 a w => ∃ (ρ : Nat → Value) (σ : St) (aj1 : Option Addr) (cj2 : Nat), a = fr 32 (updL ρ [(9, (.map (some b4))), (10, (Sl aj1 s15.1 cj2)), (19, (Sl a11 r8 c12)), (20, (I (r8.length : Int))), (21, (I s15.2))]) ∧ w = σ.w ∧ Hp S0 σ0 σ [Ch.mr b4 r1, Ch.own n0 0 (Sl aj1 s15.1 cj2) s15.1, Ch.own 0 n0 (Sl a11 r8 c12) r8]) ⟨_, σ16, none, 0, fr_join ⟨rfl, rfl, rfl, rfl, rfl, trivial⟩, rfl, H.sel' [1, 0, 2] rfl rfl⟩ ?_
  clear h H
  rintro s15 a w o ⟨ρ, σ18, a19, c20, rfl, rfl, H⟩ h hres
  refine c_seq (rg (st (v := (B (decide (s15.2 < (r8.length : Int))))) (rv_lss (a := s15.2) (b := (r8.length : Int)) rfl rfl) (w_end (q_then (c_seq ?_)))))
  refine cd_cond (decide (s15.2 < (r8.length : Int))) rfl (fun hb21 => ?_) (fun hb21 => ?_)
  ·replace h := bif_t hb21 h
   refine c_skip (q_then (c_seq (c_blk (c_seq (rg ?_)))))
   revert h; refine br fun x22 hx23 h => ?_
   obtain ⟨b25, o26, hi24, -⟩ := (H.own 2 rfl).ix hx23
   refine st (v := (pt b25 o26)) (rv_ix Tryz.underlying24 ti3 rfl rfl hi24) ?_
   have hc27 := ((H.own 2 rfl).at hx23 hi24).int
   refine st (v := (I x22)) (rv_load1 Tryz.underlying3 rfl rfl hc27) (sa (I x22) rfl (w_end (q_then (rg (sm (Sl a19 s15.1 c20) rfl (sm (.map (some b4)) rfl (sm (I x22) rfl ?_)))))))
   obtain ⟨v31, hL30, hR32⟩ := mrGet (H.mr 0 rfl) x22
   obtain ⟨a28, c29, rfl⟩ := hR32.isSl
   replace H := H.add (d := Ch.ro 0 (Sl a28 (mget r1 x22) c29) (mget r1 x22)) hR32 (fun _ h => h)
   clear hR32
   refine st (v := (Sl a28 (mget r1 x22) c29)) (rv_lookup Tryz.underlying71 Tryz.underlying3 ti30 rfl rfl hL30) ?_
   revert h; refine br fun xs33 hx34 h => ?_
   refine st_ex (ex_append H (i := 2) rfl Tryz.underlying30 Tryz.underlying30 ti50 rfl rfl (by decide) (H.ro 0 rfl).rd hx34 hn0 rfl rfl) wn ?_
   rintro _ σ37 ⟨a35, c36, rfl, H, -⟩
   refine sa (Sl a35 xs33 c36) rfl (w_end (q_blk (q_then (rg (st (v := (I (w64 (s15.2 + 1)))) (rv_add (a := s15.2) (b := 1) rfl rfl) (sm (I (w64 (s15.2 + 1))) rfl (w_end (q_then ?_))))))))
   obtain rfl := sj h
   exact ⟨_, rfl, _, σ37, a35, c36, fr_join ⟨rfl, rfl, rfl, rfl, rfl, trivial⟩, rfl, H.sel' [2, 0, 3] rfl rfl⟩
  ·replace h := bif_f hb21 h
   refine c_exit (q_then_x (q_then_x (q_blk_hit ?_)))
   obtain rfl := sj h
   obtain rfl := hres _ rfl
   exact ⟨rfl, _, σ18, a19, c20, fr_join ⟨rfl, trivial⟩, rfl, H.sel' [1] rfl rfl⟩
 ·clear hj
  have h := h'
  clear h' H
  rintro e a w ⟨rfl, ρ, σ38, a39, c40, rfl, rfl, H⟩
  refine q_then (c_seq (rg (sm (Sl a39 o14 c40) rfl (sa (Sl a39 o14 c40) rfl (w_end (q_then (c_ret ?_)))))))
  obtain rfl := sj h
  exact fin_ret (v := (Sl a39 o14 c40)) (results_ok Tryz.results33 (res_tmp (v := (Sl a39 o14 c40)) rfl res_nil) rfl) ⟨a39, c40, rfl, rfl⟩ (H.sel' [0] rfl rfl)

theorem c_impl_ProbeNearest {Bl : List (List Int)} {Bu : List (Int × (List Int) × Int)} {Ay : List Int} {Bv : Int} {Bw : Int} {Bo : Option Addr} {Bp : Nat} {By : Option Addr} {Bz : Nat} {Az : Option Addr} {Ba : Nat} {r : (List (Int × Int))} (h : M.impl_ProbeNearest Bl Bu Ay Bv Bw = some r) :
    Cal2 Tryz.prog 10 [(Sl Bo Bl Bp), (Sl By Bu Bz), (Sl Az Ay Ba), (I Bv), (I Bw)] [Ch.ro 0 (Sl Bo Bl Bp) Bl, Ch.ro 0 (Sl By Bu Bz) Bu, Ch.ro 0 (Sl Az Ay Ba) Ay] (fun n0 v L => ∃ (az1 : Option Addr), ∃ (cz2 : Nat), v = (Sl az1 r cz2) ∧ L = [Ch.own 0 n0 (Sl az1 r cz2) r]) := by
 refine cal2 (n := 31) Tryz.func10 rfl rfl rfl rfl ?_
 intro S0 σ0 n0 hn0 H
 unfold M.impl_ProbeNearest at h
 refine c_seq (rg (sa (.slice none 0 0) rfl (w_end (q_then (c_seq (c_seq ?_))))))
 obtain ⟨o1, hj, h'⟩ := bind_some h
 clear h
 refine c_cut (fun e a w => e = .normal ∧ ∃ (ρ : Nat → Value) (σ : St), a = fr 31 (updL ρ [(0, (Sl Bo Bl Bp)), (1, (Sl By Bu Bz)), (2, (Sl Az Ay Ba)), (3, (I Bv)), (4, (I Bw)), (22, (B o1))]) ∧ w = σ.w ∧ Hp S0 σ0 σ [Ch.ro 0 (Sl Bo Bl Bp) Bl, Ch.ro 0 (Sl By Bu Bz) Bu, Ch.ro 0 (Sl Az Ay Ba) Ay]) ?_ ?_
 ·clear h'
  rename _ = some o1 => h
  refine rg (sm (Sl Bo Bl Bp) rfl (sm (Sl Az Ay Ba) rfl (sm (I Bv) rfl ?_)))
  revert h; refine br fun r2 hx3 h => ?_
  have hc4 := c_impl_validProbe (Bo := Bo) (Bp := Bp) (Bq := Az) (Br := Ba) hx3
  refine st_call (cx_call hc4 (ent_f hc4.fn rfl) hn0 (H.sel' [0, 2, 0, 1, 2] rfl rfl : Hp S0 σ0 _ ([_, _] ++ _))) wn ?_
  rintro _ σ5 ⟨_, ⟨rfl, rfl⟩, H, -⟩
  replace H : Hp _ _ _ [_, _, _] := H
  refine st (v := (B (!r2))) (rv_not rfl) (sm (B (!r2)) rfl ?_)
  rcases Bool.eq_false_or_eq_true (!r2) with hb6 | hb6
  ·replace h := bif_t hb6 h
   refine st_skip (congrArg some hb6) (st_skip (congrArg some hb6) (st_skip (congrArg some hb6) (st_skip (congrArg some hb6) (st_skip (congrArg some hb6) (st (v := (B true)) (rv_pick_t (congrArg B hb6) rfl) (w_end ?_))))))
   obtain rfl := sj h
   exact ⟨rfl, _, σ5, fr_join ⟨rfl, rfl, rfl, rfl, rfl, rfl, trivial⟩, rfl, H.sel' [0, 1, 2] rfl rfl⟩
  ·replace h := bif_f hb6 h
   refine st_g (v := (Sl By Bu Bz)) (congrArg some hb6) (rv_move rfl) (st_g (v := (Sl Az Ay Ba)) (congrArg some hb6) (rv_move rfl) (st_g (v := (I Bw)) (congrArg some hb6) (rv_move rfl) ?_))
   revert h; refine br fun r7 hx8 h => ?_
   have hc9 := c_impl_validSearch (Am := By) (Ao := Bz) (Az := Az) (Ba := Ba) hx8
   refine st_call (cx_call hc9 (ent_f hc9.fn rfl) hn0 (H.sel' [1, 2, 0, 1, 2] rfl rfl : Hp S0 σ0 _ ([_, _] ++ _))) (wanted_yes rfl (by exact (congrArg some hb6))) ?_
   rintro _ σ10 ⟨_, ⟨rfl, rfl⟩, H, -⟩
   replace H : Hp _ _ _ [_, _, _] := H
   refine st_g (v := (B (!r7))) (congrArg some hb6) (rv_not rfl) (st (v := (B (!r7))) (rv_pick_f (congrArg B hb6) rfl) (w_end ?_))
   obtain rfl := sj h
   exact ⟨rfl, _, σ10, fr_join ⟨rfl, rfl, rfl, rfl, rfl, rfl, trivial⟩, rfl, H.sel' [0, 1, 2] rfl rfl⟩
 ·clear hj
  have h := h'
  clear h' H
  rintro e a w ⟨rfl, ρ, σ11, rfl, rfl, H⟩
  refine q_then ?_
  refine cd_cond o1 rfl (fun hb12 => ?_) (fun hb12 => ?_)
  ·replace h := bif_t hb12 h
   refine c_seq (rg (sa (.slice none 0 0) rfl (w_end (q_then (c_ret (q_then_r ?_))))))
   replace H := H.nilOwn (Int × Int) 0 n0
   obtain rfl := sj h
   exact fin_ret (v := (.slice none 0 0)) (results_ok Tryz.results10 (res_tmp (v := (.slice none 0 0)) rfl res_nil) rfl) ⟨none, 0, rfl, rfl⟩ (H.sel' [0] rfl rfl)
  ·replace h := bif_f hb12 h
   refine c_skip (q_then (c_seq (rg (sm (Sl Bo Bl Bp) rfl (sm (Sl By Bu Bz) rfl (sm (Sl Az Ay Ba) rfl (sm (I Bv) rfl ?_)))))))
   revert h; refine br fun r13 hx14 h => ?_
   have hc15 := c_impl_probedItems (Bo := Bo) (Bp := Bp) (By := By) (Bz := Bz) (Az := Az) (Ba := Ba) hx14
   refine st_call (cx_call hc15 (ent_f hc15.fn rfl) hn0 (H.sel' [0, 1, 2, 0, 1, 2] rfl rfl : Hp S0 σ0 _ ([_, _, _] ++ _))) wn ?_
   rintro _ σ18 ⟨_, ⟨a16, c17, rfl, rfl⟩, H, -⟩
   replace H : Hp _ _ _ [_, _, _, _] := H
   refine sm (Sl Az Ay Ba) rfl (sm (I Bw) rfl ?_)
   obtain ⟨σ19, hw20, H, -⟩ := H.pub 0 rfl (Nat.zero_le _)
   rw [← hw20]; clear hw20
   revert h; refine br fun r21 hx22 h => ?_
   have hc23 := c_impl_nearestAmong (Am := a16) (Ao := c17) (Az := Az) (Ba := Ba) hx22
   refine st_call (cx_call hc23 (ent_f hc23.fn rfl) hn0 (H.sel' [0, 3, 0, 1, 2, 3] rfl rfl : Hp S0 σ0 _ ([_, _] ++ _))) wn ?_
   rintro _ σ26 ⟨_, ⟨a24, c25, rfl, rfl⟩, H, -⟩
   replace H : Hp _ _ _ [_, _, _, _, _] := H
   refine sa (Sl a24 r21 c25) rfl (w_end (q_then (c_ret ?_)))
   obtain rfl := sj h
   exact fin_ret (v := (Sl a24 r21 c25)) (results_ok Tryz.results10 (res_tmp (v := (Sl a24 r21 c25)) rfl res_nil) rfl) ⟨a24, c25, rfl, rfl⟩ (H.sel' [0] rfl rfl)

theorem c_laws_eqHit {Aa : Int × Int} {Bb : Int × Int}  {r : Bool} (h : M.laws_eqHit Aa Bb = some r) :
    Cal2 Tryz.prog 34 [(.agg #[(I Aa.1), (I Aa.2)]), (.agg #[(I Bb.1), (I Bb.2)])] [] (fun n0 v L => v = (B r) ∧ L = []) := by
 refine cal2 (n := 15) Tryz.func34 rfl rfl rfl rfl ?_
 intro S0 σ0 n0 hn0 H
 unfold M.laws_eqHit at h
 refine c_seq (rg (st_ex (ex_box (cs := [(I Aa.1), (I Aa.2)]) H hn0 rfl rfl) wn ?_))
 rintro _ σ2 ⟨b1, rfl, H, -⟩
 refine st_ex (ex_box (cs := [(I Bb.1), (I Bb.2)]) H hn0 rfl rfl) wn ?_
 rintro _ σ4 ⟨b3, rfl, H, -⟩
 refine sa (B false) rfl (w_end (q_then (c_seq (c_seq (rg (st (v := (pt b1 0)) (rv_fieldAddr (off := 0) (ft := 3) Tryz.underlying58 rfl ti3 rfl rfl) ?_))))))
 have hc5 := H.cell (u := (I Aa.1)) (o' := 0) 1 0 rfl rfl rfl
 refine st (v := (I Aa.1)) (rv_load1 Tryz.underlying3 rfl rfl hc5) (st (v := (pt b3 0)) (rv_fieldAddr (off := 0) (ft := 3) Tryz.underlying58 rfl ti3 rfl rfl) ?_)
 have hc6 := H.cell (u := (I Bb.1)) (o' := 0) 0 0 rfl rfl rfl
 refine st (v := (I Bb.1)) (rv_load1 Tryz.underlying3 rfl rfl hc6) (st (v := (B (Aa.1 != Bb.1))) (rv_neq (a := Aa.1) (b := Bb.1) rfl rfl) (w_end (q_then ?_)))
 refine cd_cond (Aa.1 != Bb.1) rfl (fun hb7 => ?_) (fun hb7 => ?_)
 ·replace h := bif_t hb7 h
  refine c_seq (rg (sa (B false) rfl (w_end (q_then (c_ret (q_then_r ?_))))))
  obtain rfl := sj h
  exact fin_ret (v := (B false)) (results_ok Tryz.results34 (res_tmp (v := (B false)) rfl res_nil) rfl) ⟨rfl, rfl⟩ (H.sel' [] rfl rfl)
 ·replace h := bif_f hb7 h
  refine c_skip (q_then (c_seq (c_seq (rg (st (v := (pt b1 1)) (rv_fieldAddr (off := 1) (ft := 3) Tryz.underlying58 rfl ti3 rfl rfl) ?_)))))
  have hc8 := H.cell (u := (I Aa.2)) (o' := 1) 1 1 rfl rfl rfl
  refine st (v := (I Aa.2)) (rv_load1 Tryz.underlying3 rfl rfl hc8) (st (v := (pt b3 1)) (rv_fieldAddr (off := 1) (ft := 3) Tryz.underlying58 rfl ti3 rfl rfl) ?_)
  have hc9 := H.cell (u := (I Bb.2)) (o' := 1) 0 1 rfl rfl rfl
  refine st (v := (I Bb.2)) (rv_load1 Tryz.underlying3 rfl rfl hc9) (st (v := (B (Aa.2 != Bb.2))) (rv_neq (a := Aa.2) (b := Bb.2) rfl rfl) (w_end (q_then ?_)))
  refine cd_cond (Aa.2 != Bb.2) rfl (fun hb10 => ?_) (fun hb10 => ?_)
  ·replace h := bif_t hb10 h
   refine c_seq (rg (sa (B false) rfl (w_end (q_then (c_ret (q_then_r ?_))))))
   obtain rfl := sj h
   exact fin_ret (v := (B false)) (results_ok Tryz.results34 (res_tmp (v := (B false)) rfl res_nil) rfl) ⟨rfl, rfl⟩ (H.sel' [] rfl rfl)
  ·replace h := bif_f hb10 h
   refine c_skip (q_then (c_seq (rg (sa (B true) rfl (w_end (q_then (c_ret ?_)))))))
   obtain rfl := sj h
   exact fin_ret (v := (B true)) (results_ok Tryz.results34 (res_tmp (v := (B true)) rfl res_nil) rfl) ⟨rfl, rfl⟩ (H.sel' [] rfl rfl)

theorem c_laws_eqHitS {Aa : List (Int × Int)} {Bb : List (Int × Int)} {Ad : Option Addr} {Ae : Nat} {Kd : Option Addr} {Ke : Nat} {r : Bool} (h : M.laws_eqHitS Aa Bb = some r) :
    Cal2 Tryz.prog 11 [(Sl Ad Aa Ae), (Sl Kd Bb Ke)] [Ch.ro 0 (Sl Ad Aa Ae) Aa, Ch.ro 0 (Sl Kd Bb Ke) Bb] (fun n0 v L => v = (B r) ∧ L = []) := by
 refine cal2 (n := 27) Tryz.func11 rfl rfl rfl rfl ?_
 intro S0 σ0 n0 hn0 H
 unfold M.laws_eqHitS at h
 refine c_seq (rg (sa (B false) rfl (w_end (q_then (c_seq (c_seq (rg (sm (Sl Ad Aa Ae) rfl (st (v := (I (Aa.length : Int))) (rv_len Tryz.underlying27 rfl) (sm (Sl Kd Bb Ke) rfl (st (v := (I (Bb.length : Int))) (rv_len Tryz.underlying27 rfl) ?_)))))))))))
 refine st (v := (B ((Aa.length : Int) != (Bb.length : Int)))) (rv_neq (a := (Aa.length : Int)) (b := (Bb.length : Int)) rfl rfl) (w_end (q_then ?_))
 refine cd_cond ((Aa.length : Int) != (Bb.length : Int)) rfl (fun hb1 => ?_) (fun hb1 => ?_)
 ·replace h := bif_t hb1 h
  refine c_seq (rg (sa (B false) rfl (w_end (q_then (c_ret (q_then_r ?_))))))
  obtain rfl := sj h
  exact fin_ret (v := (B false)) (results_ok Tryz.results11 (res_tmp (v := (B false)) rfl res_nil) rfl) ⟨rfl, rfl⟩ (H.sel' [] rfl rfl)
 ·replace h := bif_f hb1 h
  refine c_skip (q_then (c_seq (c_seq (rg (sa (I 0) rfl (w_end (q_then ?_)))))))
  obtain ⟨o2, hj, h'⟩ := bind_some h
  clear h
  refine c_cut (fun e a w => (∃ t, o2 = (.inl t) ∧ e = .normal ∧ ∃ (ρ : Nat → Value) (σ : St), a = fr 27 (updL ρ []) ∧ w = σ.w ∧ Hp S0 σ0 σ []) ∨ (∃ t, o2 = (.inr t) ∧ e = .ret ∧ ∃ (ρ : Nat → Value) (σ : St), a = fr 27 (updL ρ [(4, (B t))]) ∧ w = σ.w ∧ Hp S0 σ0 σ [])) ?_ ?_
  ·clear h'
   rename _ = some o2 => h
   refine c_blk (wp_loopM _ h (fun s3 a w => ∃ (ρ : Nat → Value) (σ : St), a = fr 27 (updL ρ [(0, (Sl Ad Aa Ae)), (1, (Sl Kd Bb Ke)), (5, (I s3))]) ∧ w = σ.w ∧ Hp S0 σ0 σ [Ch.ro 0 (Sl Ad Aa Ae) Aa, Ch.ro 0 (Sl Kd Bb Ke) Bb]) ⟨_, σ0, fr_join ⟨rfl, rfl, rfl, trivial⟩, rfl, H.sel' [0, 1] rfl rfl⟩ ?_)
   clear h H
   rintro s3 a w o ⟨ρ, σ4, rfl, rfl, H⟩ h hres
   refine c_seq (c_seq (rg (sm (I s3) rfl (sm (Sl Ad Aa Ae) rfl (st (v := (I (Aa.length : Int))) (rv_len Tryz.underlying27 rfl) (st (v := (B (decide (s3 < (Aa.length : Int))))) (rv_lss (a := s3) (b := (Aa.length : Int)) rfl rfl) (w_end (q_then ?_))))))))
   refine cd_cond (decide (s3 < (Aa.length : Int))) rfl (fun hb5 => ?_) (fun hb5 => ?_)
   ·replace h := bif_t hb5 h
    refine c_skip (q_then (c_seq (c_blk (c_seq ?_))))
    refine rgP (σ := σ4) 8 (by kernel_rfl) (by kernel_rfl) (by kernel_rfl) ?_
    refine sq (v := (Sl Ad Aa Ae)) (rv_move rfl) (sq (v := (I s3)) (rv_move rfl) ?_)
    revert h; refine br fun x6 hx7 h => ?_
    obtain ⟨b9, o10, hi8, -⟩ := (H.ro 0 rfl).ix hx7
    refine sq (v := (pt b9 o10)) (rv_ix Tryz.underlying27 ti58 rfl rfl hi8) ?_
    obtain ⟨_, ⟨_, _, rfl, rfl, rfl⟩, hl11, hc12⟩ := ((H.ro 0 rfl).at hx7 hi8).cells
    refine sq (v := (.agg #[(I x6.1), (I x6.2)])) (rv_load Tryz.underlying58 rfl ti58 rfl hl11 hc12) (sq (v := (Sl Kd Bb Ke)) (rv_move rfl) (sq (v := (I s3)) (rv_move rfl) ?_))
    revert h; refine br fun x13 hx14 h => ?_
    obtain ⟨b16, o17, hi15, -⟩ := (H.ro 1 rfl).ix hx14
    refine sq (v := (pt b16 o17)) (rv_ix Tryz.underlying27 ti58 rfl rfl hi15) ?_
    obtain ⟨_, ⟨_, _, rfl, rfl, rfl⟩, hl18, hc19⟩ := ((H.ro 1 rfl).at hx14 hi15).cells
    refine sq (v := (.agg #[(I x13.1), (I x13.2)])) (rv_load Tryz.underlying58 rfl ti58 rfl hl18 hc19) (sq_end ?_)
    intro σ20 hm21
    replace H := H.grow (hm21.mono fun _ h => h); clear hm21
    revert h; refine br fun r22 hx23 h => ?_
    have hc24 := c_laws_eqHit hx23
    refine st_call (cx_call hc24 (ent_f hc24.fn rfl) hn0 (H.sel' [0, 1] rfl rfl : Hp S0 σ0 _ ([] ++ _))) wn ?_
    rintro _ σ25 ⟨_, ⟨rfl, rfl⟩, H, -⟩
    replace H : Hp _ _ _ [_, _] := H
    refine st (v := (B (!r22))) (rv_not rfl) (w_end (q_then ?_))
    refine cd_cond (!r22) rfl (fun hb26 => ?_) (fun hb26 => ?_)
    ·replace h := bif_t hb26 h
     refine c_seq (rg (sa (B false) rfl (w_end (q_then (c_ret (q_blk_r (q_then_r (q_then_r (q_blk_r ?_)))))))))
     obtain rfl := sj h
     obtain rfl := hres _ rfl
     exact .inr (⟨_, rfl, rfl, _, σ25, fr_join ⟨rfl, trivial⟩, rfl, H.sel' [] rfl rfl⟩)
    ·replace h := bif_f hb26 h
     refine c_skip (q_blk (q_then (rg (sm (I s3) rfl (st (v := (I (w64 (s3 + 1)))) (rv_add (a := s3) (b := 1) rfl rfl) (sa (I (w64 (s3 + 1))) rfl (w_end (q_then ?_))))))))
     obtain rfl := sj h
     exact ⟨_, rfl, _, σ25, fr_join ⟨rfl, rfl, rfl, trivial⟩, rfl, H.sel' [0, 1] rfl rfl⟩
   ·replace h := bif_f hb5 h
    refine c_exit (q_then_x (q_then_x (q_blk_hit ?_)))
    obtain rfl := sj h
    obtain rfl := hres _ rfl
    exact .inl ⟨_, rfl, rfl, _, σ4, fr_join trivial, rfl, H.sel' [] rfl rfl⟩
  ·clear hj
   have h := h'
   clear h' H
   rintro e a w (⟨t27, rfl, rfl, ρ, σ28, rfl, rfl, H⟩ | ⟨t29, rfl, rfl, ρ, σ30, rfl, rfl, H⟩)
   ·replace h := selim_l h
    refine q_then (c_seq (rg (sa (B true) rfl (w_end (q_then (c_ret ?_))))))
    obtain rfl := sj h
    exact fin_ret (v := (B true)) (results_ok Tryz.results11 (res_tmp (v := (B true)) rfl res_nil) rfl) ⟨rfl, rfl⟩ (H.sel' [] rfl rfl)
   ·replace h := selim_r h
    refine q_then_r ?_
    obtain rfl := sj h
    exact fin_ret (v := (B t29)) (results_ok Tryz.results11 (res_tmp (v := (B t29)) rfl res_nil) rfl) ⟨rfl, rfl⟩ (H.sel' [] rfl rfl)

theorem c_laws_eqIntS {Aa : List Int} {Bb : List Int} {Ad : Option Addr} {Ae : Nat} {Kd : Option Addr} {Ke : Nat} {r : Bool} (h : M.laws_eqIntS Aa Bb = some r) :
    Cal2 Tryz.prog 14 [(Sl Ad Aa Ae), (Sl Kd Bb Ke)] [Ch.ro 0 (Sl Ad Aa Ae) Aa, Ch.ro 0 (Sl Kd Bb Ke) Bb] (fun n0 v L => v = (B r) ∧ L = []) := by
 refine cal2 (n := 26) Tryz.func14 rfl rfl rfl rfl ?_
 intro S0 σ0 n0 hn0 H
 unfold M.laws_eqIntS at h
 refine c_seq (rg (sa (B false) rfl (w_end (q_then (c_seq (c_seq (rg (sm (Sl Ad Aa Ae) rfl (st (v := (I (Aa.length : Int))) (rv_len Tryz.underlying24 rfl) (sm (Sl Kd Bb Ke) rfl (st (v := (I (Bb.length : Int))) (rv_len Tryz.underlying24 rfl) ?_)))))))))))
 refine st (v := (B ((Aa.length : Int) != (Bb.length : Int)))) (rv_neq (a := (Aa.length : Int)) (b := (Bb.length : Int)) rfl rfl) (w_end (q_then ?_))
 refine cd_cond ((Aa.length : Int) != (Bb.length : Int)) rfl (fun hb1 => ?_) (fun hb1 => ?_)
 ·replace h := bif_t hb1 h
  refine c_seq (rg (sa (B false) rfl (w_end (q_then (c_ret (q_then_r ?_))))))
  obtain rfl := sj h
  exact fin_ret (v := (B false)) (results_ok Tryz.results14 (res_tmp (v := (B false)) rfl res_nil) rfl) ⟨rfl, rfl⟩ (H.sel' [] rfl rfl)
 ·replace h := bif_f hb1 h
  refine c_skip (q_then (c_seq (c_seq (rg (sa (I 0) rfl (w_end (q_then ?_)))))))
  obtain ⟨o2, hj, h'⟩ := bind_some h
  clear h
  refine c_cut (fun e a w => (∃ t, o2 = (.inl t) ∧ e = .normal ∧ ∃ (ρ : Nat → Value) (σ : St), a = fr 26 (updL ρ []) ∧ w = σ.w ∧ Hp S0 σ0 σ []) ∨ (∃ t, o2 = (.inr t) ∧ e = .ret ∧ ∃ (ρ : Nat → Value) (σ : St), a = fr 26 (updL ρ [(4, (B t))]) ∧ w = σ.w ∧ Hp S0 σ0 σ [])) ?_ ?_
  ·clear h'
   rename _ = some o2 => h
   refine c_blk (wp_loopM _ h (fun s3 a w => ∃ (ρ : Nat → Value) (σ : St), a = fr 26 (updL ρ [(0, (Sl Ad Aa Ae)), (1, (Sl Kd Bb Ke)), (5, (I s3))]) ∧ w = σ.w ∧ Hp S0 σ0 σ [Ch.ro 0 (Sl Ad Aa Ae) Aa, Ch.ro 0 (Sl Kd Bb Ke) Bb]) ⟨_, σ0, fr_join ⟨rfl, rfl, rfl, trivial⟩, rfl, H.sel' [0, 1] rfl rfl⟩ ?_)
   clear h H
   rintro s3 a w o ⟨ρ, σ4, rfl, rfl, H⟩ h hres
   refine c_seq (c_seq (rg (sm (I s3) rfl (sm (Sl Ad Aa Ae) rfl (st (v := (I (Aa.length : Int))) (rv_len Tryz.underlying24 rfl) (st (v := (B (decide (s3 < (Aa.length : Int))))) (rv_lss (a := s3) (b := (Aa.length : Int)) rfl rfl) (w_end (q_then ?_))))))))
   refine cd_cond (decide (s3 < (Aa.length : Int))) rfl (fun hb5 => ?_) (fun hb5 => ?_)
   ·replace h := bif_t hb5 h
    refine c_skip (q_then (c_seq (c_blk (c_seq ?_))))
    refine rgP (σ := σ4) 8 (by kernel_rfl) (by kernel_rfl) (by kernel_rfl) ?_
    refine sq (v := (Sl Ad Aa Ae)) (rv_move rfl) (sq (v := (I s3)) (rv_move rfl) ?_)
    revert h; refine br fun x6 hx7 h => ?_
    obtain ⟨b9, o10, hi8, -⟩ := (H.ro 0 rfl).ix hx7
    refine sq (v := (pt b9 o10)) (rv_ix Tryz.underlying24 ti3 rfl rfl hi8) ?_
    have hc11 := ((H.ro 0 rfl).at hx7 hi8).int
    refine sq (v := (I x6)) (rv_load1 Tryz.underlying3 rfl rfl hc11) (sq (v := (Sl Kd Bb Ke)) (rv_move rfl) (sq (v := (I s3)) (rv_move rfl) ?_))
    revert h; refine br fun x12 hx13 h => ?_
    obtain ⟨b15, o16, hi14, -⟩ := (H.ro 1 rfl).ix hx13
    refine sq (v := (pt b15 o16)) (rv_ix Tryz.underlying24 ti3 rfl rfl hi14) ?_
    have hc17 := ((H.ro 1 rfl).at hx13 hi14).int
    refine sq (v := (I x12)) (rv_load1 Tryz.underlying3 rfl rfl hc17) (sq_end ?_)
    intro σ18 hm19
    replace H := H.grow (hm19.mono fun _ h => h); clear hm19
    refine st (v := (B (x6 != x12))) (rv_neq (a := x6) (b := x12) rfl rfl) (w_end (q_then ?_))
    refine cd_cond (x6 != x12) rfl (fun hb20 => ?_) (fun hb20 => ?_)
    ·replace h := bif_t hb20 h
     refine c_seq (rg (sa (B false) rfl (w_end (q_then (c_ret (q_blk_r (q_then_r (q_then_r (q_blk_r ?_)))))))))
     obtain rfl := sj h
     obtain rfl := hres _ rfl
     exact .inr (⟨_, rfl, rfl, _, σ18, fr_join ⟨rfl, trivial⟩, rfl, H.sel' [] rfl rfl⟩)
    ·replace h := bif_f hb20 h
     refine c_skip (q_blk (q_then (rg (sm (I s3) rfl (st (v := (I (w64 (s3 + 1)))) (rv_add (a := s3) (b := 1) rfl rfl) (sa (I (w64 (s3 + 1))) rfl (w_end (q_then ?_))))))))
     obtain rfl := sj h
     exact ⟨_, rfl, _, σ18, fr_join ⟨rfl, rfl, rfl, trivial⟩, rfl, H.sel' [0, 1] rfl rfl⟩
   ·replace h := bif_f hb5 h
    refine c_exit (q_then_x (q_then_x (q_blk_hit ?_)))
    obtain rfl := sj h
    obtain rfl := hres _ rfl
    exact .inl ⟨_, rfl, rfl, _, σ4, fr_join trivial, rfl, H.sel' [] rfl rfl⟩
  ·clear hj
   have h := h'
   clear h' H
   rintro e a w (⟨t21, rfl, rfl, ρ, σ22, rfl, rfl, H⟩ | ⟨t23, rfl, rfl, ρ, σ24, rfl, rfl, H⟩)
   ·replace h := selim_l h
    refine q_then (c_seq (rg (sa (B true) rfl (w_end (q_then (c_ret ?_))))))
    obtain rfl := sj h
    exact fin_ret (v := (B true)) (results_ok Tryz.results14 (res_tmp (v := (B true)) rfl res_nil) rfl) ⟨rfl, rfl⟩ (H.sel' [] rfl rfl)
   ·replace h := selim_r h
    refine q_then_r ?_
    obtain rfl := sj h
    exact fin_ret (v := (B t23)) (results_ok Tryz.results14 (res_tmp (v := (B t23)) rfl res_nil) rfl) ⟨rfl, rfl⟩ (H.sel' [] rfl rfl)

end Go.Vs

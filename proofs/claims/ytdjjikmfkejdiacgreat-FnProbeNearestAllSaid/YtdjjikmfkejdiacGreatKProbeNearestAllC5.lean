/- The functions compute what their models say. -/
import Derived.Test.YtdjjikmfkejdiacGreatKProbeNearestAllC4
set_option linter.unusedVariables false
set_option linter.unusedSimpArgs false
set_option maxRecDepth 20000
namespace Go.Vs
open Go Go.Proofs
attribute [local irreducible] Code.wp Code.wpIn wpList wpListIn wpQuiet Calls CallsIn

theorem c_slices_symMergeCmpFunc_int__impl_ProbeOrder_1 : ∀ (fuel : Nat) {Ge : List Int} {Ej : Int} {Ht : Int} {Hu : Int} {Gz : List (List Int)} {Ha : List Int} {Gh : Option Addr} {Gi : Nat} {Hc : Option Addr} {Hd : Nat} {He Hf Hg : Nat} {Hi Hj : List Value} {Hk : Option Addr} {Hl : Nat} {Hm Hn Ho : Nat} {Hq Hr : List Value} {r : (List Int)} (h : M.slices_symMergeCmpFunc_int__impl_ProbeOrder_1 fuel Ge Ej Ht Hu Gz Ha = some r),
    Cal2 Tryz.prog 104 [(Sl Gh Ge Gi), (I Ej), (I Ht), (I Hu), (.func (.func 78) #[] #[(pt Hf Hg), (pt Hn Ho)])] [Ch.own 0 0 (Sl Gh Ge Gi) Ge, Ch.bx He Hf Hg [(Sl Hc Gz Hd)] Hi Hj, Ch.ro 0 (Sl Hc Gz Hd) Gz, Ch.bx Hm Hn Ho [(Sl Hk Ha Hl)] Hq Hr, Ch.ro 0 (Sl Hk Ha Hl) Ha] (fun n0 v L => v = (.tuple #[]) ∧ L = [Ch.own 0 0 (Sl Gh r Gi) r, Ch.bx He Hf Hg [(Sl Hc Gz Hd)] Hi Hj, Ch.bx Hm Hn Ho [(Sl Hk Ha Hl)] Hq Hr] ∧ r.length = Ge.length) := by
 intro fuel
 induction fuel with
 | zero => intro _ _ _ _ _ _ _ _ _ _ _ _ _ _ _ _ _ _ _ _ _ _ r h; cases h
 | succ fuel ih =>
 ·intro Ge Ej Ht Hu Gz Ha Gh Gi Hc Hd He Hf Hg Hi Hj Hk Hl Hm Hn Ho Hq Hr r h
  replace h : M.slices_symMergeCmpFunc_int__impl_ProbeOrder_1_F (M.slices_symMergeCmpFunc_int__impl_ProbeOrder_1 fuel) Ge Ej Ht Hu Gz Ha = some r := h
  refine cal2 (n := 220) Tryz.func104 rfl rfl rfl rfl ?_
  intro S0 σ0 n0 hn0 H
  unfold M.slices_symMergeCmpFunc_int__impl_ProbeOrder_1_F at h
  refine c_seq (c_seq (rg (sm (I Ht) rfl (sm (I Ej) rfl (st (v := (I (w64 (Ht - Ej)))) (rv_sub (a := Ht) (b := Ej) rfl rfl) (st (v := (B ((w64 (Ht - Ej)) == 1))) (rv_eql (a := (w64 (Ht - Ej))) (b := 1) rfl rfl) (w_end (q_then ?_))))))))
  refine cd_cond ((w64 (Ht - Ej)) == 1) rfl (fun hb1 => ?_) (fun hb1 => ?_)
  ·replace h := bif_t hb1 h
   refine c_seq (rg (sm (I Ht) rfl (sa (I Ht) rfl (w_end (q_then (c_seq (rg (sm (I Hu) rfl (sa (I Hu) rfl (w_end (q_then ?_)))))))))))
   refine c_seq ?_
   obtain ⟨o2, hj, h'⟩ := bind_some h
   clear h
   refine c_cut (fun e a w => e = .normal ∧ ∃ (ρ : Nat → Value) (σ : St), a = fr 220 (updL ρ [(0, (Sl Gh Ge Gi)), (1, (I Ej)), (4, (.func (.func 78) #[] #[(pt Hf Hg), (pt Hn Ho)])), (10, (I o2))]) ∧ w = σ.w ∧ Hp S0 σ0 σ [Ch.own 0 0 (Sl Gh Ge Gi) Ge, Ch.ro 0 (Sl Hc Gz Hd) Gz, Ch.bx He Hf Hg [(Sl Hc Gz Hd)] Hi Hj, Ch.ro 0 (Sl Hk Ha Hl) Ha, Ch.bx Hm Hn Ho [(Sl Hk Ha Hl)] Hq Hr]) ?_ ?_
   ·clear h'
    rename _ = some o2 => h
    refine c_blk (wp_loopM _ h (fun s3 a w => ∃ (ρ : Nat → Value) (σ : St), a = fr 220 (updL ρ [(0, (Sl Gh Ge Gi)), (1, (I Ej)), (4, (.func (.func 78) #[] #[(pt Hf Hg), (pt Hn Ho)])), (10, (I s3.1)), (11, (I s3.2))]) ∧ w = σ.w ∧ Hp S0 σ0 σ [Ch.own 0 0 (Sl Gh Ge Gi) Ge, Ch.ro 0 (Sl Hc Gz Hd) Gz, Ch.bx He Hf Hg [(Sl Hc Gz Hd)] Hi Hj, Ch.ro 0 (Sl Hk Ha Hl) Ha, Ch.bx Hm Hn Ho [(Sl Hk Ha Hl)] Hq Hr]) ⟨_, σ0, fr_join ⟨rfl, rfl, rfl, rfl, rfl, trivial⟩, rfl, H.sel' [0, 2, 1, 4, 3] rfl rfl⟩ ?_)
    clear h H
    rintro s3 a w o ⟨ρ, σ4, rfl, rfl, H⟩ h hres
    refine c_seq (c_seq (rg (sm (I s3.1) rfl (sm (I s3.2) rfl (st (v := (B (decide (s3.1 < s3.2)))) (rv_lss (a := s3.1) (b := s3.2) rfl rfl) (w_end (q_then ?_)))))))
    refine cd_cond (decide (s3.1 < s3.2)) rfl (fun hb5 => ?_) (fun hb5 => ?_)
    ·replace h := bif_t hb5 h
     refine c_skip (q_then (c_blk (c_seq (rg (sm (I s3.1) rfl (sm (I s3.2) rfl (st (v := (I (w64 (s3.1 + s3.2)))) (rv_add (a := s3.1) (b := s3.2) rfl rfl) (st (v := (.int .u64 (wk .u64 (w64 (s3.1 + s3.2))))) (rvk_conv (k := .i64) (k' := .u64) (a := (w64 (s3.1 + s3.2))) Tryz.underlying3 Tryz.underlying99 rfl) ?_))))))))
     refine st (v := (.int .u64 (gshr .u64 (wk .u64 (w64 (s3.1 + s3.2))) 1))) (rvk_shr (k := .u64) (k' := .u64) (a := (wk .u64 (w64 (s3.1 + s3.2)))) (b := 1) rfl rfl (by decide)) ?_
     refine st (v := (I (wk .i64 (gshr .u64 (wk .u64 (w64 (s3.1 + s3.2))) 1)))) (rvk_conv (k := .u64) (k' := .i64) (a := (gshr .u64 (wk .u64 (w64 (s3.1 + s3.2))) 1)) Tryz.underlying99 Tryz.underlying3 rfl) (sa (I (wk .i64 (gshr .u64 (wk .u64 (w64 (s3.1 + s3.2))) 1))) rfl (w_end (q_then (c_seq ?_))))
     refine rgP (σ := σ4) 9 (by kernel_rfl) (by kernel_rfl) (by kernel_rfl) ?_
     refine sq (v := (.func (.func 78) #[] #[(pt Hf Hg), (pt Hn Ho)])) (rv_move rfl) (sq (v := (Sl Gh Ge Gi)) (rv_move rfl) (sq (v := (I (wk .i64 (gshr .u64 (wk .u64 (w64 (s3.1 + s3.2))) 1)))) (rv_move rfl) ?_))
     revert h; refine br fun x6 hx7 h => ?_
     obtain ⟨b9, o10, hi8, -⟩ := (H.own 0 rfl).ix hx7
     refine sq (v := (pt b9 o10)) (rv_ix Tryz.underlying25 ti3 rfl rfl hi8) ?_
     have hc11 := ((H.own 0 rfl).at hx7 hi8).int
     refine sq (v := (I x6)) (rv_load1 Tryz.underlying3 rfl rfl hc11) (sq (v := (Sl Gh Ge Gi)) (rv_move rfl) (sq (v := (I Ej)) (rv_move rfl) ?_))
     revert h; refine br fun x12 hx13 h => ?_
     obtain ⟨b15, o16, hi14, -⟩ := (H.own 0 rfl).ix hx13
     refine sq (v := (pt b15 o16)) (rv_ix Tryz.underlying25 ti3 rfl rfl hi14) ?_
     have hc17 := ((H.own 0 rfl).at hx13 hi14).int
     refine sq (v := (I x12)) (rv_load1 Tryz.underlying3 rfl rfl hc17) (sq_end ?_)
     intro σ18 hm19
     replace H := H.grow (hm19.mono fun _ h => h); clear hm19
     revert h; refine br fun r20 hx21 h => ?_
     have hc22 := c_impl_ProbeOrder_1__p_SSint__p24 (Fa := He) (Fb := Hf) (Fc := Hg) (Fd := Hi) (Fe := Hj) (Ey := Hc) (Ez := Hd) (Fy := Hm) (Ga := Hn) (Gb := Ho) (Gc := Hq) (Gd := Hr) (Fw := Hk) (Fx := Hl) hx21
     refine st_call (cx_call hc22 (ent_v (cap := [(pt Hf Hg), (pt Hn Ho)]) hc22.fn rfl rfl) hn0 (H.sel' [2, 1, 4, 3, 0, 1, 3] rfl rfl : Hp S0 σ0 _ ([_, _, _, _] ++ _))) wn ?_
     rintro _ σ23 ⟨_, ⟨rfl, rfl⟩, H, -⟩
     replace H : Hp _ _ _ [_, _, _, _, _] := H
     refine st (v := (B (decide (r20 < 0)))) (rv_lss (a := r20) (b := 0) rfl rfl) (w_end (q_then ?_))
     refine cd_cond (decide (r20 < 0)) rfl (fun hb24 => ?_) (fun hb24 => ?_)
     ·replace h := bif_t hb24 h
      refine rg (sm (I (wk .i64 (gshr .u64 (wk .u64 (w64 (s3.1 + s3.2))) 1))) rfl (st (v := (I (w64 ((wk .i64 (gshr .u64 (wk .u64 (w64 (s3.1 + s3.2))) 1)) + 1)))) (rv_add (a := (wk .i64 (gshr .u64 (wk .u64 (w64 (s3.1 + s3.2))) 1))) (b := 1) rfl rfl) (sa (I (w64 ((wk .i64 (gshr .u64 (wk .u64 (w64 (s3.1 + s3.2))) 1)) + 1))) rfl (w_end (q_blk (q_then ?_))))))
      obtain rfl := sj h
      exact ⟨_, rfl, _, σ23, fr_join ⟨rfl, rfl, rfl, rfl, rfl, trivial⟩, rfl, H.sel' [2, 3, 0, 4, 1] rfl rfl⟩
     ·replace h := bif_f hb24 h
      refine rg (sm (I (wk .i64 (gshr .u64 (wk .u64 (w64 (s3.1 + s3.2))) 1))) rfl (sa (I (wk .i64 (gshr .u64 (wk .u64 (w64 (s3.1 + s3.2))) 1))) rfl (w_end (q_blk (q_then ?_)))))
      obtain rfl := sj h
      exact ⟨_, rfl, _, σ23, fr_join ⟨rfl, rfl, rfl, rfl, rfl, trivial⟩, rfl, H.sel' [2, 3, 0, 4, 1] rfl rfl⟩
    ·replace h := bif_f hb5 h
     refine c_exit (q_then_x (q_then_x (q_blk_hit ?_)))
     obtain rfl := sj h
     obtain rfl := hres _ rfl
     exact ⟨rfl, _, σ4, fr_join ⟨rfl, rfl, rfl, rfl, trivial⟩, rfl, H.sel' [0, 1, 2, 3, 4] rfl rfl⟩
   ·clear hj
    have h := h'
    clear h' H
    rintro e a w ⟨rfl, ρ, σ25, rfl, rfl, H⟩
    refine q_then (c_seq (c_seq (rg (sm (I Ej) rfl (sa (I Ej) rfl (w_end (q_then ?_)))))))
    obtain ⟨o26, hj, h'⟩ := bind_some h
    clear h
    refine c_cut (fun e a w => e = .normal ∧ ∃ (ρ : Nat → Value) (σ : St), a = fr 220 (updL ρ [(0, (Sl Gh o26 Gi)), (4, (.func (.func 78) #[] #[(pt Hf Hg), (pt Hn Ho)]))]) ∧ w = σ.w ∧ Hp S0 σ0 σ [Ch.own 0 0 (Sl Gh o26 Gi) o26, Ch.ro 0 (Sl Hc Gz Hd) Gz, Ch.bx He Hf Hg [(Sl Hc Gz Hd)] Hi Hj, Ch.ro 0 (Sl Hk Ha Hl) Ha, Ch.bx Hm Hn Ho [(Sl Hk Ha Hl)] Hq Hr] ∧ o26.length = Ge.length) ?_ ?_
    ·clear h'
     rename _ = some o26 => h
     refine c_blk (wp_loopM _ h (fun s27 a w => ∃ (ρ : Nat → Value) (σ : St), a = fr 220 (updL ρ [(0, (Sl Gh s27.1 Gi)), (4, (.func (.func 78) #[] #[(pt Hf Hg), (pt Hn Ho)])), (10, (I o2)), (13, (I s27.2))]) ∧ w = σ.w ∧ Hp S0 σ0 σ [Ch.own 0 0 (Sl Gh s27.1 Gi) s27.1, Ch.ro 0 (Sl Hc Gz Hd) Gz, Ch.bx He Hf Hg [(Sl Hc Gz Hd)] Hi Hj, Ch.ro 0 (Sl Hk Ha Hl) Ha, Ch.bx Hm Hn Ho [(Sl Hk Ha Hl)] Hq Hr] ∧ s27.1.length = Ge.length) ⟨_, σ25, fr_join ⟨rfl, rfl, rfl, rfl, trivial⟩, rfl, H.sel' [0, 1, 2, 3, 4] rfl rfl, rfl⟩ ?_)
     clear h H
     rintro s27 a w o ⟨ρ, σ28, rfl, rfl, H, hn29⟩ h hres
     refine c_seq (c_seq (rg (sm (I s27.2) rfl (sm (I o2) rfl (st (v := (I (w64 (o2 - 1)))) (rv_sub (a := o2) (b := 1) rfl rfl) (st (v := (B (decide (s27.2 < (w64 (o2 - 1)))))) (rv_lss (a := s27.2) (b := (w64 (o2 - 1))) rfl rfl) (w_end (q_then ?_))))))))
     refine cd_cond (decide (s27.2 < (w64 (o2 - 1)))) rfl (fun hb30 => ?_) (fun hb30 => ?_)
     ·replace h := bif_t hb30 h
      refine c_skip (q_then (c_seq (c_blk ?_)))
      revert h; refine br fun x31 hx32 h => ?_
      obtain ⟨b34, o35, hi33, -⟩ := (H.own 0 rfl).ix hx32
      have hc36 := ((H.own 0 rfl).at hx32 hi33).int
      revert h; refine br fun x37 hx38 h => ?_
      obtain ⟨b40, o41, hi39, -⟩ := (H.own 0 rfl).ix hx38
      have hc42 := ((H.own 0 rfl).at hx38 hi39).int
      revert h; refine br fun x43 hx44 h => ?_
      obtain ⟨b46, o47, hi45, -⟩ := (H.own 0 rfl).ix hx44
      have Hs := H
      refine rg2 (σ := σ28) (Nm := Unit) 16 [15] [[false], [true]] [[(0, 0)], [(0, 0)], [(0, 0), (1, 1)], [(0, 0), (1, 1)], [(0, 0), (1, 1)], [(0, 0)], [(0, 0)], [(0, 0)], [(0, 0)], [(0, 0)], [(0, 0)], [(0, 0)], [(0, 0)], [(0, 0)], [(0, 0)], [(0, 1)]] 1 [fun _ => fun σm => Hp S0 σ0 σm [Ch.own 0 0 (Sl Gh s27.1 Gi) s27.1, Ch.ro 0 (Sl Hc Gz Hd) Gz, Ch.bx He Hf Hg [(Sl Hc Gz Hd)] Hi Hj, Ch.ro 0 (Sl Hk Ha Hl) Ha, Ch.bx Hm Hn Ho [(Sl Hk Ha Hl)] Hq Hr] ∧ Md (cov []) σ28 σm, fun _ => fun σm => Hp S0 σ0 σm [Ch.own 0 0 (Sl Gh s27.1 Gi) (s27.1.set s27.2.toNat x31), Ch.ro 0 (Sl Hc Gz Hd) Gz, Ch.bx He Hf Hg [(Sl Hc Gz Hd)] Hi Hj, Ch.ro 0 (Sl Hk Ha Hl) Ha, Ch.bx Hm Hn Ho [(Sl Hk Ha Hl)] Hq Hr] ∧ Md (fun i => (cov []) i ∨ (fun b => blk (Sl Gh s27.1 Gi) = some b) i) σ28 σm] [fun _ => (Sl Gh s27.1 Gi), fun _ => (I s27.2), fun _ => (Sl Gh s27.1 Gi), fun _ => (I s27.2), fun _ => (I (w64 (s27.2 + 1))), fun _ => (Sl Gh s27.1 Gi), fun _ => (I s27.2), fun _ => (I (w64 (s27.2 + 1))), fun _ => (pt b34 o35), fun _ => (I x31), fun _ => (Sl Gh s27.1 Gi), fun _ => (I s27.2), fun _ => (pt b40 o41), fun _ => (I x37), fun _ => (pt b46 o47), fun _ => undef] () (by kernel_rfl) (by kernel_rfl) ?_ ?_ ?_
      ·intro σm m0
       exact ⟨H.grow (m0.mono fun _ h => h.elim), m0⟩
      ·refine ac rfl (by
         intro k _nm ρ σm hJ hoff hdep
         have e0 := look_off (N := 220) (hoff 0 rfl) rfl
         exact dp_v (v := (Sl Gh s27.1 Gi)) wn (rv_move e0) rfl hJ) ?_
       refine ac rfl (by
         intro k _nm ρ σm hJ hoff hdep
         have e13 := look_off (N := 220) (hoff 13 rfl) rfl
         exact dp_v (v := (I s27.2)) wn (rv_move e13) rfl hJ) ?_
       refine ac rfl (by
         intro k _nm ρ σm hJ hoff hdep
         have e0 := look_off (N := 220) (hoff 0 rfl) rfl
         exact dp_v (v := (Sl Gh s27.1 Gi)) wn (rv_move e0) rfl hJ) ?_
       refine ac rfl (by
         intro k _nm ρ σm hJ hoff hdep
         have e13 := look_off (N := 220) (hoff 13 rfl) rfl
         exact dp_v (v := (I s27.2)) wn (rv_move e13) rfl hJ) ?_
       refine ac rfl (by
         intro k _nm ρ σm hJ hoff hdep
         have e64 := hdep 3 rfl rfl 64 rfl
         exact dp_v (v := (I (w64 (s27.2 + 1)))) wn (rv_add (a := s27.2) (b := 1) e64 rfl) rfl hJ) ?_
       refine ac rfl (by
         intro k _nm ρ σm hJ hoff hdep
         have e0 := look_off (N := 220) (hoff 0 rfl) rfl
         exact dp_v (v := (Sl Gh s27.1 Gi)) wn (rv_move e0) rfl hJ) ?_
       refine ac rfl (by
         intro k _nm ρ σm hJ hoff hdep
         have e13 := look_off (N := 220) (hoff 13 rfl) rfl
         exact dp_v (v := (I s27.2)) wn (rv_move e13) rfl hJ) ?_
       refine ac rfl (by
         intro k _nm ρ σm hJ hoff hdep
         have e67 := hdep 6 rfl rfl 67 rfl
         exact dp_v (v := (I (w64 (s27.2 + 1)))) wn (rv_add (a := s27.2) (b := 1) e67 rfl) rfl hJ) ?_
       refine ac rfl (by
         intro k _nm ρ σm hJ hoff hdep
         have e66 := hdep 5 rfl rfl 66 rfl
         have e68 := hdep 7 rfl rfl 68 rfl
         exact dp_v (v := (pt b34 o35)) wn (rv_ix Tryz.underlying25 ti3 e66 e68 hi33) rfl hJ) ?_
       refine all_cons (by
         refine ⟨?_, ?_⟩
         ·intro _nm ρ σm hJ hoff hdep
          have e69 := hdep 8 rfl rfl 69 rfl
          obtain ⟨H, m⟩ := id hJ
          have hc36 := ((H.own 0 rfl).at hx32 hi33).int
          exact dp_v (v := (I x31)) wn (rv_load1 Tryz.underlying3 rfl e69 hc36) rfl hJ
         trivial) ?_
       refine ac rfl (by
         intro k _nm ρ σm hJ hoff hdep
         have e0 := look_off (N := 220) (hoff 0 rfl) rfl
         exact dp_v (v := (Sl Gh s27.1 Gi)) wn (rv_move e0) rfl hJ) ?_
       refine ac rfl (by
         intro k _nm ρ σm hJ hoff hdep
         have e13 := look_off (N := 220) (hoff 13 rfl) rfl
         exact dp_v (v := (I s27.2)) wn (rv_move e13) rfl hJ) ?_
       refine ac rfl (by
         intro k _nm ρ σm hJ hoff hdep
         have e71 := hdep 10 rfl rfl 71 rfl
         have e72 := hdep 11 rfl rfl 72 rfl
         exact dp_v (v := (pt b40 o41)) wn (rv_ix Tryz.underlying25 ti3 e71 e72 hi39) rfl hJ) ?_
       refine all_cons (by
         refine ⟨?_, ?_⟩
         ·intro _nm ρ σm hJ hoff hdep
          have e73 := hdep 12 rfl rfl 73 rfl
          obtain ⟨H, m⟩ := id hJ
          have hc42 := ((H.own 0 rfl).at hx38 hi39).int
          exact dp_v (v := (I x37)) wn (rv_load1 Tryz.underlying3 rfl e73 hc42) rfl hJ
         trivial) ?_
       refine ac rfl (by
         intro k _nm ρ σm hJ hoff hdep
         have e61 := hdep 0 rfl rfl 61 rfl
         have e62 := hdep 1 rfl rfl 62 rfl
         exact dp_v (v := (pt b46 o47)) wn (rv_ix Tryz.underlying25 ti3 e61 e62 hi45) rfl hJ) ?_
       refine all_cons (by
         refine ⟨?_, ?_⟩
         ·intro _nm ρ σm hJ hoff hdep
          have e75 := hdep 14 rfl rfl 75 rfl
          have e70 := hdep 9 rfl rfl 70 rfl
          obtain ⟨H, m⟩ := id hJ
          refine dp_exS wn rfl (ex_store_own (e' := x31) (vs := [(I x31)]) (k := 0) H (i := 0) rfl ti3 hx44 hi45 e75 rfl e70 rfl rfl (Nat.le_of_ble_eq_true rfl) (by simp [plain]) (by rintro _ rfl; exact rfl)) ?_
          rintro σq ⟨H2, m2⟩
          exact ⟨_, (), rfl, ⟨H2.sel' [0, 1, 2, 3, 4] rfl rfl, m.comp m2⟩, stab [0, 1, 2, 3, 4, 5, 6, 7, 8, 9, 10, 11, 12, 13, 14] (by kernel_rfl) ⟨rfl, rfl, rfl, rfl, rfl, rfl, rfl, rfl, rfl, rfl, rfl, rfl, rfl, rfl, rfl, trivial⟩⟩
         trivial) ?_
       exact all_nil
      ·intro _nm ρ σ48 hJ hoff hrel
       have e0 := look_off (N := 220) (hoff 0 rfl) rfl
       have e4 := look_off (N := 220) (hoff 4 rfl) rfl
       have e10 := look_off (N := 220) (hoff 10 rfl) rfl
       have e13 := look_off (N := 220) (hoff 13 rfl) rfl
       have e63 := hrel 2 rfl 63 rfl
       have e65 := hrel 4 rfl 65 rfl
       have e74 := hrel 13 rfl 74 rfl
       obtain ⟨H, -⟩ := (show Hp S0 σ0 σ48 [Ch.own 0 0 (Sl Gh s27.1 Gi) (s27.1.set s27.2.toNat x31), Ch.ro 0 (Sl Hc Gz Hd) Gz, Ch.bx He Hf Hg [(Sl Hc Gz Hd)] Hi Hj, Ch.ro 0 (Sl Hk Ha Hl) Ha, Ch.bx Hm Hn Ho [(Sl Hk Ha Hl)] Hq Hr] ∧ Md (fun i => (cov []) i ∨ (fun b => blk (Sl Gh s27.1 Gi) = some b) i) σ28 σ48 from hJ)
       clear hJ Hs
       rw [fr_lookL (L := [(0, (Sl Gh s27.1 Gi)), (4, (.func (.func 78) #[] #[(pt Hf Hg), (pt Hn Ho)])), (10, (I o2)), (13, (I s27.2)), (63, (Sl Gh s27.1 Gi)), (65, (I (w64 (s27.2 + 1)))), (74, (I x37))]) ⟨e0, e4, e10, e13, e63, e65, e74, trivial⟩]
       clear hoff hrel e0 e4 e10 e13 e63 e65 e74
       have hsl : (Sl Gh s27.1 Gi) = (Sl Gh (s27.1.set s27.2.toNat x31) Gi) := sl_len (by simp)
       rw [hsl]; rw [hsl] at H; clear hsl
       revert h; refine br fun x49 hx50 h => ?_
       obtain ⟨b52, o53, hi51, -⟩ := (H.own 0 rfl).ix hx50
       refine st (v := (pt b52 o53)) (rv_ix Tryz.underlying25 ti3 rfl rfl hi51) ?_
       refine st_exS (ex_store_own (e' := x37) (vs := [(I x37)]) (k := 0) H (i := 0) rfl ti3 hx50 hi51 rfl rfl rfl rfl rfl (Nat.le_of_ble_eq_true rfl) (by simp [plain]) (by rintro _ rfl; exact rfl)) wn ?_
       rintro σ54 ⟨H, -⟩
       have hsl : (Sl Gh (s27.1.set s27.2.toNat x31) Gi) = (Sl Gh ((s27.1.set s27.2.toNat x31).set (w64 (s27.2 + 1)).toNat x37) Gi) := sl_len List.length_set.symm
       rw [hsl]; rw [hsl] at H; clear hsl
       refine w_end (q_blk (q_then (rg (sm (I s27.2) rfl (st (v := (I (w64 (s27.2 + 1)))) (rv_add (a := s27.2) (b := 1) rfl rfl) (sa (I (w64 (s27.2 + 1))) rfl (w_end (q_then ?_))))))))
       obtain rfl := sj h
       exact ⟨_, rfl, _, σ54, fr_join ⟨rfl, rfl, rfl, rfl, trivial⟩, rfl, H.sel' [0, 1, 2, 3, 4] rfl rfl, (List.length_set.trans (List.length_set.trans hn29))⟩
     ·replace h := bif_f hb30 h
      refine c_exit (q_then_x (q_then_x (q_blk_hit ?_)))
      obtain rfl := sj h
      obtain rfl := hres _ rfl
      exact ⟨rfl, _, σ28, fr_join ⟨rfl, rfl, trivial⟩, rfl, H.sel' [0, 1, 2, 3, 4] rfl rfl, hn29⟩
    ·clear hj
     have h := h'
     clear h' H
     rintro e a w ⟨rfl, ρ, σ55, rfl, rfl, H, hn56⟩
     refine q_then (c_ret (q_then_r ?_))
     obtain rfl := sj h
     exact fin_ret (v := (.tuple #[])) (results_ok Tryz.results104 res_nil rfl) ⟨rfl, rfl, hn56⟩ (H.sel' [0, 2, 4] rfl rfl)
  ·replace h := bif_f hb1 h
   refine c_skip (q_then (c_seq (c_seq (rg (sm (I Hu) rfl (sm (I Ht) rfl (st (v := (I (w64 (Hu - Ht)))) (rv_sub (a := Hu) (b := Ht) rfl rfl) (st (v := (B ((w64 (Hu - Ht)) == 1))) (rv_eql (a := (w64 (Hu - Ht))) (b := 1) rfl rfl) (w_end (q_then ?_))))))))))
   refine cd_cond ((w64 (Hu - Ht)) == 1) rfl (fun hb57 => ?_) (fun hb57 => ?_)
   ·replace h := bif_t hb57 h
    refine c_seq (rg (sm (I Ej) rfl (sa (I Ej) rfl (w_end (q_then (c_seq (rg (sm (I Ht) rfl (sa (I Ht) rfl (w_end (q_then ?_)))))))))))
    refine c_seq ?_
    obtain ⟨o58, hj, h'⟩ := bind_some h
    clear h
    refine c_cut (fun e a w => e = .normal ∧ ∃ (ρ : Nat → Value) (σ : St), a = fr 220 (updL ρ [(0, (Sl Gh Ge Gi)), (2, (I Ht)), (4, (.func (.func 78) #[] #[(pt Hf Hg), (pt Hn Ho)])), (14, (I o58))]) ∧ w = σ.w ∧ Hp S0 σ0 σ [Ch.own 0 0 (Sl Gh Ge Gi) Ge, Ch.ro 0 (Sl Hc Gz Hd) Gz, Ch.bx He Hf Hg [(Sl Hc Gz Hd)] Hi Hj, Ch.ro 0 (Sl Hk Ha Hl) Ha, Ch.bx Hm Hn Ho [(Sl Hk Ha Hl)] Hq Hr]) ?_ ?_
    ·clear h'
     rename _ = some o58 => h
     refine c_blk (wp_loopM _ h (fun s59 a w => ∃ (ρ : Nat → Value) (σ : St), a = fr 220 (updL ρ [(0, (Sl Gh Ge Gi)), (2, (I Ht)), (4, (.func (.func 78) #[] #[(pt Hf Hg), (pt Hn Ho)])), (14, (I s59.1)), (15, (I s59.2))]) ∧ w = σ.w ∧ Hp S0 σ0 σ [Ch.own 0 0 (Sl Gh Ge Gi) Ge, Ch.ro 0 (Sl Hc Gz Hd) Gz, Ch.bx He Hf Hg [(Sl Hc Gz Hd)] Hi Hj, Ch.ro 0 (Sl Hk Ha Hl) Ha, Ch.bx Hm Hn Ho [(Sl Hk Ha Hl)] Hq Hr]) ⟨_, σ0, fr_join ⟨rfl, rfl, rfl, rfl, rfl, trivial⟩, rfl, H.sel' [0, 2, 1, 4, 3] rfl rfl⟩ ?_)
     clear h H
     rintro s59 a w o ⟨ρ, σ60, rfl, rfl, H⟩ h hres
     refine c_seq (c_seq (rg (sm (I s59.1) rfl (sm (I s59.2) rfl (st (v := (B (decide (s59.1 < s59.2)))) (rv_lss (a := s59.1) (b := s59.2) rfl rfl) (w_end (q_then ?_)))))))
     refine cd_cond (decide (s59.1 < s59.2)) rfl (fun hb61 => ?_) (fun hb61 => ?_)
     ·replace h := bif_t hb61 h
      refine c_skip (q_then (c_blk (c_seq (rg (sm (I s59.1) rfl (sm (I s59.2) rfl (st (v := (I (w64 (s59.1 + s59.2)))) (rv_add (a := s59.1) (b := s59.2) rfl rfl) (st (v := (.int .u64 (wk .u64 (w64 (s59.1 + s59.2))))) (rvk_conv (k := .i64) (k' := .u64) (a := (w64 (s59.1 + s59.2))) Tryz.underlying3 Tryz.underlying99 rfl) ?_))))))))
      refine st (v := (.int .u64 (gshr .u64 (wk .u64 (w64 (s59.1 + s59.2))) 1))) (rvk_shr (k := .u64) (k' := .u64) (a := (wk .u64 (w64 (s59.1 + s59.2)))) (b := 1) rfl rfl (by decide)) ?_
      refine st (v := (I (wk .i64 (gshr .u64 (wk .u64 (w64 (s59.1 + s59.2))) 1)))) (rvk_conv (k := .u64) (k' := .i64) (a := (gshr .u64 (wk .u64 (w64 (s59.1 + s59.2))) 1)) Tryz.underlying99 Tryz.underlying3 rfl) (sa (I (wk .i64 (gshr .u64 (wk .u64 (w64 (s59.1 + s59.2))) 1))) rfl (w_end (q_then (c_seq ?_))))
      refine rgP (σ := σ60) 9 (by kernel_rfl) (by kernel_rfl) (by kernel_rfl) ?_
      refine sq (v := (.func (.func 78) #[] #[(pt Hf Hg), (pt Hn Ho)])) (rv_move rfl) (sq (v := (Sl Gh Ge Gi)) (rv_move rfl) (sq (v := (I Ht)) (rv_move rfl) ?_))
      revert h; refine br fun x62 hx63 h => ?_
      obtain ⟨b65, o66, hi64, -⟩ := (H.own 0 rfl).ix hx63
      refine sq (v := (pt b65 o66)) (rv_ix Tryz.underlying25 ti3 rfl rfl hi64) ?_
      have hc67 := ((H.own 0 rfl).at hx63 hi64).int
      refine sq (v := (I x62)) (rv_load1 Tryz.underlying3 rfl rfl hc67) (sq (v := (Sl Gh Ge Gi)) (rv_move rfl) (sq (v := (I (wk .i64 (gshr .u64 (wk .u64 (w64 (s59.1 + s59.2))) 1)))) (rv_move rfl) ?_))
      revert h; refine br fun x68 hx69 h => ?_
      obtain ⟨b71, o72, hi70, -⟩ := (H.own 0 rfl).ix hx69
      refine sq (v := (pt b71 o72)) (rv_ix Tryz.underlying25 ti3 rfl rfl hi70) ?_
      have hc73 := ((H.own 0 rfl).at hx69 hi70).int
      refine sq (v := (I x68)) (rv_load1 Tryz.underlying3 rfl rfl hc73) (sq_end ?_)
      intro σ74 hm75
      replace H := H.grow (hm75.mono fun _ h => h); clear hm75
      revert h; refine br fun r76 hx77 h => ?_
      have hc78 := c_impl_ProbeOrder_1__p_SSint__p24 (Fa := He) (Fb := Hf) (Fc := Hg) (Fd := Hi) (Fe := Hj) (Ey := Hc) (Ez := Hd) (Fy := Hm) (Ga := Hn) (Gb := Ho) (Gc := Hq) (Gd := Hr) (Fw := Hk) (Fx := Hl) hx77
      refine st_call (cx_call hc78 (ent_v (cap := [(pt Hf Hg), (pt Hn Ho)]) hc78.fn rfl rfl) hn0 (H.sel' [2, 1, 4, 3, 0, 1, 3] rfl rfl : Hp S0 σ0 _ ([_, _, _, _] ++ _))) wn ?_
      rintro _ σ79 ⟨_, ⟨rfl, rfl⟩, H, -⟩
      replace H : Hp _ _ _ [_, _, _, _, _] := H
      refine st (v := (B (decide (r76 < 0)))) (rv_lss (a := r76) (b := 0) rfl rfl) (st (v := (B (!(decide (r76 < 0))))) (rv_not rfl) (w_end (q_then ?_)))
      refine cd_cond (!(decide (r76 < 0))) rfl (fun hb80 => ?_) (fun hb80 => ?_)
      ·replace h := bif_t hb80 h
       refine rg (sm (I (wk .i64 (gshr .u64 (wk .u64 (w64 (s59.1 + s59.2))) 1))) rfl (st (v := (I (w64 ((wk .i64 (gshr .u64 (wk .u64 (w64 (s59.1 + s59.2))) 1)) + 1)))) (rv_add (a := (wk .i64 (gshr .u64 (wk .u64 (w64 (s59.1 + s59.2))) 1))) (b := 1) rfl rfl) (sa (I (w64 ((wk .i64 (gshr .u64 (wk .u64 (w64 (s59.1 + s59.2))) 1)) + 1))) rfl (w_end (q_blk (q_then ?_))))))
       obtain rfl := sj h
       exact ⟨_, rfl, _, σ79, fr_join ⟨rfl, rfl, rfl, rfl, rfl, trivial⟩, rfl, H.sel' [2, 3, 0, 4, 1] rfl rfl⟩
      ·replace h := bif_f hb80 h
       refine rg (sm (I (wk .i64 (gshr .u64 (wk .u64 (w64 (s59.1 + s59.2))) 1))) rfl (sa (I (wk .i64 (gshr .u64 (wk .u64 (w64 (s59.1 + s59.2))) 1))) rfl (w_end (q_blk (q_then ?_)))))
       obtain rfl := sj h
       exact ⟨_, rfl, _, σ79, fr_join ⟨rfl, rfl, rfl, rfl, rfl, trivial⟩, rfl, H.sel' [2, 3, 0, 4, 1] rfl rfl⟩
     ·replace h := bif_f hb61 h
      refine c_exit (q_then_x (q_then_x (q_blk_hit ?_)))
      obtain rfl := sj h
      obtain rfl := hres _ rfl
      exact ⟨rfl, _, σ60, fr_join ⟨rfl, rfl, rfl, rfl, trivial⟩, rfl, H.sel' [0, 1, 2, 3, 4] rfl rfl⟩
    ·clear hj
     have h := h'
     clear h' H
     rintro e a w ⟨rfl, ρ, σ81, rfl, rfl, H⟩
     refine q_then (c_seq (c_seq (rg (sm (I Ht) rfl (sa (I Ht) rfl (w_end (q_then ?_)))))))
     obtain ⟨o82, hj, h'⟩ := bind_some h
     clear h
     refine c_cut (fun e a w => e = .normal ∧ ∃ (ρ : Nat → Value) (σ : St), a = fr 220 (updL ρ [(0, (Sl Gh o82 Gi)), (4, (.func (.func 78) #[] #[(pt Hf Hg), (pt Hn Ho)]))]) ∧ w = σ.w ∧ Hp S0 σ0 σ [Ch.own 0 0 (Sl Gh o82 Gi) o82, Ch.ro 0 (Sl Hc Gz Hd) Gz, Ch.bx He Hf Hg [(Sl Hc Gz Hd)] Hi Hj, Ch.ro 0 (Sl Hk Ha Hl) Ha, Ch.bx Hm Hn Ho [(Sl Hk Ha Hl)] Hq Hr] ∧ o82.length = Ge.length) ?_ ?_
     ·clear h'
      rename _ = some o82 => h
      refine c_blk (wp_loopM _ h (fun s83 a w => ∃ (ρ : Nat → Value) (σ : St), a = fr 220 (updL ρ [(0, (Sl Gh s83.1 Gi)), (4, (.func (.func 78) #[] #[(pt Hf Hg), (pt Hn Ho)])), (14, (I o58)), (17, (I s83.2))]) ∧ w = σ.w ∧ Hp S0 σ0 σ [Ch.own 0 0 (Sl Gh s83.1 Gi) s83.1, Ch.ro 0 (Sl Hc Gz Hd) Gz, Ch.bx He Hf Hg [(Sl Hc Gz Hd)] Hi Hj, Ch.ro 0 (Sl Hk Ha Hl) Ha, Ch.bx Hm Hn Ho [(Sl Hk Ha Hl)] Hq Hr] ∧ s83.1.length = Ge.length) ⟨_, σ81, fr_join ⟨rfl, rfl, rfl, rfl, trivial⟩, rfl, H.sel' [0, 1, 2, 3, 4] rfl rfl, rfl⟩ ?_)
      clear h H
      rintro s83 a w o ⟨ρ, σ84, rfl, rfl, H, hn85⟩ h hres
      refine c_seq (c_seq (rg (sm (I s83.2) rfl (sm (I o58) rfl (st (v := (B (decide (o58 < s83.2)))) (rv_gtr (a := s83.2) (b := o58) rfl rfl) (w_end (q_then ?_)))))))
      refine cd_cond (decide (o58 < s83.2)) rfl (fun hb86 => ?_) (fun hb86 => ?_)
      ·replace h := bif_t hb86 h
       refine c_skip (q_then (c_seq (c_blk ?_)))
       revert h; refine br fun x87 hx88 h => ?_
       obtain ⟨b90, o91, hi89, -⟩ := (H.own 0 rfl).ix hx88
       have hc92 := ((H.own 0 rfl).at hx88 hi89).int
       revert h; refine br fun x93 hx94 h => ?_
       obtain ⟨b96, o97, hi95, -⟩ := (H.own 0 rfl).ix hx94
       have hc98 := ((H.own 0 rfl).at hx94 hi95).int
       revert h; refine br fun x99 hx100 h => ?_
       obtain ⟨b102, o103, hi101, -⟩ := (H.own 0 rfl).ix hx100
       have Hs := H
       refine rg2 (σ := σ84) (Nm := Unit) 16 [15] [[false], [true]] [[(0, 0)], [(0, 0)], [(0, 0), (1, 1)], [(0, 0), (1, 1)], [(0, 0), (1, 1)], [(0, 0)], [(0, 0)], [(0, 0)], [(0, 0)], [(0, 0)], [(0, 0)], [(0, 0)], [(0, 0)], [(0, 0)], [(0, 0)], [(0, 1)]] 1 [fun _ => fun σm => Hp S0 σ0 σm [Ch.own 0 0 (Sl Gh s83.1 Gi) s83.1, Ch.ro 0 (Sl Hc Gz Hd) Gz, Ch.bx He Hf Hg [(Sl Hc Gz Hd)] Hi Hj, Ch.ro 0 (Sl Hk Ha Hl) Ha, Ch.bx Hm Hn Ho [(Sl Hk Ha Hl)] Hq Hr] ∧ Md (cov []) σ84 σm, fun _ => fun σm => Hp S0 σ0 σm [Ch.own 0 0 (Sl Gh s83.1 Gi) (s83.1.set s83.2.toNat x87), Ch.ro 0 (Sl Hc Gz Hd) Gz, Ch.bx He Hf Hg [(Sl Hc Gz Hd)] Hi Hj, Ch.ro 0 (Sl Hk Ha Hl) Ha, Ch.bx Hm Hn Ho [(Sl Hk Ha Hl)] Hq Hr] ∧ Md (fun i => (cov []) i ∨ (fun b => blk (Sl Gh s83.1 Gi) = some b) i) σ84 σm] [fun _ => (Sl Gh s83.1 Gi), fun _ => (I s83.2), fun _ => (Sl Gh s83.1 Gi), fun _ => (I s83.2), fun _ => (I (w64 (s83.2 - 1))), fun _ => (Sl Gh s83.1 Gi), fun _ => (I s83.2), fun _ => (I (w64 (s83.2 - 1))), fun _ => (pt b90 o91), fun _ => (I x87), fun _ => (Sl Gh s83.1 Gi), fun _ => (I s83.2), fun _ => (pt b96 o97), fun _ => (I x93), fun _ => (pt b102 o103), fun _ => undef] () (by kernel_rfl) (by kernel_rfl) ?_ ?_ ?_
       ·intro σm m0
        exact ⟨H.grow (m0.mono fun _ h => h.elim), m0⟩
       ·refine ac rfl (by
          intro k _nm ρ σm hJ hoff hdep
          have e0 := look_off (N := 220) (hoff 0 rfl) rfl
          exact dp_v (v := (Sl Gh s83.1 Gi)) wn (rv_move e0) rfl hJ) ?_
        refine ac rfl (by
          intro k _nm ρ σm hJ hoff hdep
          have e17 := look_off (N := 220) (hoff 17 rfl) rfl
          exact dp_v (v := (I s83.2)) wn (rv_move e17) rfl hJ) ?_
        refine ac rfl (by
          intro k _nm ρ σm hJ hoff hdep
          have e0 := look_off (N := 220) (hoff 0 rfl) rfl
          exact dp_v (v := (Sl Gh s83.1 Gi)) wn (rv_move e0) rfl hJ) ?_
        refine ac rfl (by
          intro k _nm ρ σm hJ hoff hdep
          have e17 := look_off (N := 220) (hoff 17 rfl) rfl
          exact dp_v (v := (I s83.2)) wn (rv_move e17) rfl hJ) ?_
        refine ac rfl (by
          intro k _nm ρ σm hJ hoff hdep
          have e116 := hdep 3 rfl rfl 116 rfl
          exact dp_v (v := (I (w64 (s83.2 - 1)))) wn (rv_sub (a := s83.2) (b := 1) e116 rfl) rfl hJ) ?_
        refine ac rfl (by
          intro k _nm ρ σm hJ hoff hdep
          have e0 := look_off (N := 220) (hoff 0 rfl) rfl
          exact dp_v (v := (Sl Gh s83.1 Gi)) wn (rv_move e0) rfl hJ) ?_
        refine ac rfl (by
          intro k _nm ρ σm hJ hoff hdep
          have e17 := look_off (N := 220) (hoff 17 rfl) rfl
          exact dp_v (v := (I s83.2)) wn (rv_move e17) rfl hJ) ?_
        refine ac rfl (by
          intro k _nm ρ σm hJ hoff hdep
          have e119 := hdep 6 rfl rfl 119 rfl
          exact dp_v (v := (I (w64 (s83.2 - 1)))) wn (rv_sub (a := s83.2) (b := 1) e119 rfl) rfl hJ) ?_
        refine ac rfl (by
          intro k _nm ρ σm hJ hoff hdep
          have e118 := hdep 5 rfl rfl 118 rfl
          have e120 := hdep 7 rfl rfl 120 rfl
          exact dp_v (v := (pt b90 o91)) wn (rv_ix Tryz.underlying25 ti3 e118 e120 hi89) rfl hJ) ?_
        refine all_cons (by
          refine ⟨?_, ?_⟩
          ·intro _nm ρ σm hJ hoff hdep
           have e121 := hdep 8 rfl rfl 121 rfl
           obtain ⟨H, m⟩ := id hJ
           have hc92 := ((H.own 0 rfl).at hx88 hi89).int
           exact dp_v (v := (I x87)) wn (rv_load1 Tryz.underlying3 rfl e121 hc92) rfl hJ
          trivial) ?_
        refine ac rfl (by
          intro k _nm ρ σm hJ hoff hdep
          have e0 := look_off (N := 220) (hoff 0 rfl) rfl
          exact dp_v (v := (Sl Gh s83.1 Gi)) wn (rv_move e0) rfl hJ) ?_
        refine ac rfl (by
          intro k _nm ρ σm hJ hoff hdep
          have e17 := look_off (N := 220) (hoff 17 rfl) rfl
          exact dp_v (v := (I s83.2)) wn (rv_move e17) rfl hJ) ?_
        refine ac rfl (by
          intro k _nm ρ σm hJ hoff hdep
          have e123 := hdep 10 rfl rfl 123 rfl
          have e124 := hdep 11 rfl rfl 124 rfl
          exact dp_v (v := (pt b96 o97)) wn (rv_ix Tryz.underlying25 ti3 e123 e124 hi95) rfl hJ) ?_
        refine all_cons (by
          refine ⟨?_, ?_⟩
          ·intro _nm ρ σm hJ hoff hdep
           have e125 := hdep 12 rfl rfl 125 rfl
           obtain ⟨H, m⟩ := id hJ
           have hc98 := ((H.own 0 rfl).at hx94 hi95).int
           exact dp_v (v := (I x93)) wn (rv_load1 Tryz.underlying3 rfl e125 hc98) rfl hJ
          trivial) ?_
        refine ac rfl (by
          intro k _nm ρ σm hJ hoff hdep
          have e113 := hdep 0 rfl rfl 113 rfl
          have e114 := hdep 1 rfl rfl 114 rfl
          exact dp_v (v := (pt b102 o103)) wn (rv_ix Tryz.underlying25 ti3 e113 e114 hi101) rfl hJ) ?_
        refine all_cons (by
          refine ⟨?_, ?_⟩
          ·intro _nm ρ σm hJ hoff hdep
           have e127 := hdep 14 rfl rfl 127 rfl
           have e122 := hdep 9 rfl rfl 122 rfl
           obtain ⟨H, m⟩ := id hJ
           refine dp_exS wn rfl (ex_store_own (e' := x87) (vs := [(I x87)]) (k := 0) H (i := 0) rfl ti3 hx100 hi101 e127 rfl e122 rfl rfl (Nat.le_of_ble_eq_true rfl) (by simp [plain]) (by rintro _ rfl; exact rfl)) ?_
           rintro σq ⟨H2, m2⟩
           exact ⟨_, (), rfl, ⟨H2.sel' [0, 1, 2, 3, 4] rfl rfl, m.comp m2⟩, stab [0, 1, 2, 3, 4, 5, 6, 7, 8, 9, 10, 11, 12, 13, 14] (by kernel_rfl) ⟨rfl, rfl, rfl, rfl, rfl, rfl, rfl, rfl, rfl, rfl, rfl, rfl, rfl, rfl, rfl, trivial⟩⟩
          trivial) ?_
        exact all_nil
       ·intro _nm ρ σ104 hJ hoff hrel
        have e0 := look_off (N := 220) (hoff 0 rfl) rfl
        have e4 := look_off (N := 220) (hoff 4 rfl) rfl
        have e14 := look_off (N := 220) (hoff 14 rfl) rfl
        have e17 := look_off (N := 220) (hoff 17 rfl) rfl
        have e115 := hrel 2 rfl 115 rfl
        have e117 := hrel 4 rfl 117 rfl
        have e126 := hrel 13 rfl 126 rfl
        obtain ⟨H, -⟩ := (show Hp S0 σ0 σ104 [Ch.own 0 0 (Sl Gh s83.1 Gi) (s83.1.set s83.2.toNat x87), Ch.ro 0 (Sl Hc Gz Hd) Gz, Ch.bx He Hf Hg [(Sl Hc Gz Hd)] Hi Hj, Ch.ro 0 (Sl Hk Ha Hl) Ha, Ch.bx Hm Hn Ho [(Sl Hk Ha Hl)] Hq Hr] ∧ Md (fun i => (cov []) i ∨ (fun b => blk (Sl Gh s83.1 Gi) = some b) i) σ84 σ104 from hJ)
        clear hJ Hs
        rw [fr_lookL (L := [(0, (Sl Gh s83.1 Gi)), (4, (.func (.func 78) #[] #[(pt Hf Hg), (pt Hn Ho)])), (14, (I o58)), (17, (I s83.2)), (115, (Sl Gh s83.1 Gi)), (117, (I (w64 (s83.2 - 1)))), (126, (I x93))]) ⟨e0, e4, e14, e17, e115, e117, e126, trivial⟩]
        clear hoff hrel e0 e4 e14 e17 e115 e117 e126
        have hsl : (Sl Gh s83.1 Gi) = (Sl Gh (s83.1.set s83.2.toNat x87) Gi) := sl_len (by simp)
        rw [hsl]; rw [hsl] at H; clear hsl
        revert h; refine br fun x105 hx106 h => ?_
        obtain ⟨b108, o109, hi107, -⟩ := (H.own 0 rfl).ix hx106
        refine st (v := (pt b108 o109)) (rv_ix Tryz.underlying25 ti3 rfl rfl hi107) ?_
        refine st_exS (ex_store_own (e' := x93) (vs := [(I x93)]) (k := 0) H (i := 0) rfl ti3 hx106 hi107 rfl rfl rfl rfl rfl (Nat.le_of_ble_eq_true rfl) (by simp [plain]) (by rintro _ rfl; exact rfl)) wn ?_
        rintro σ110 ⟨H, -⟩
        have hsl : (Sl Gh (s83.1.set s83.2.toNat x87) Gi) = (Sl Gh ((s83.1.set s83.2.toNat x87).set (w64 (s83.2 - 1)).toNat x93) Gi) := sl_len List.length_set.symm
        rw [hsl]; rw [hsl] at H; clear hsl
        refine w_end (q_blk (q_then (rg (sm (I s83.2) rfl (st (v := (I (w64 (s83.2 - 1)))) (rv_sub (a := s83.2) (b := 1) rfl rfl) (sa (I (w64 (s83.2 - 1))) rfl (w_end (q_then ?_))))))))
        obtain rfl := sj h
        exact ⟨_, rfl, _, σ110, fr_join ⟨rfl, rfl, rfl, rfl, trivial⟩, rfl, H.sel' [0, 1, 2, 3, 4] rfl rfl, (List.length_set.trans (List.length_set.trans hn85))⟩
      ·replace h := bif_f hb86 h
       refine c_exit (q_then_x (q_then_x (q_blk_hit ?_)))
       obtain rfl := sj h
       obtain rfl := hres _ rfl
       exact ⟨rfl, _, σ84, fr_join ⟨rfl, rfl, trivial⟩, rfl, H.sel' [0, 1, 2, 3, 4] rfl rfl, hn85⟩
     ·clear hj
      have h := h'
      clear h' H
      rintro e a w ⟨rfl, ρ, σ111, rfl, rfl, H, hn112⟩
      refine q_then (c_ret (q_then_r ?_))
      obtain rfl := sj h
      exact fin_ret (v := (.tuple #[])) (results_ok Tryz.results104 res_nil rfl) ⟨rfl, rfl, hn112⟩ (H.sel' [0, 2, 4] rfl rfl)
   ·replace h := bif_f hb57 h
    refine c_skip (q_then (c_seq (rg (sm (I Ej) rfl (sm (I Hu) rfl (st (v := (I (w64 (Ej + Hu)))) (rv_add (a := Ej) (b := Hu) rfl rfl) (st (v := (.int .u64 (wk .u64 (w64 (Ej + Hu))))) (rvk_conv (k := .i64) (k' := .u64) (a := (w64 (Ej + Hu))) Tryz.underlying3 Tryz.underlying99 rfl) ?_)))))))
    refine st (v := (.int .u64 (gshr .u64 (wk .u64 (w64 (Ej + Hu))) 1))) (rvk_shr (k := .u64) (k' := .u64) (a := (wk .u64 (w64 (Ej + Hu)))) (b := 1) rfl rfl (by decide)) ?_
    refine st (v := (I (wk .i64 (gshr .u64 (wk .u64 (w64 (Ej + Hu))) 1)))) (rvk_conv (k := .u64) (k' := .i64) (a := (gshr .u64 (wk .u64 (w64 (Ej + Hu))) 1)) Tryz.underlying99 Tryz.underlying3 rfl) (sa (I (wk .i64 (gshr .u64 (wk .u64 (w64 (Ej + Hu))) 1))) rfl (w_end (q_then (c_seq (rg (sm (I (wk .i64 (gshr .u64 (wk .u64 (w64 (Ej + Hu))) 1))) rfl (sm (I Ht) rfl (st (v := (I (w64 ((wk .i64 (gshr .u64 (wk .u64 (w64 (Ej + Hu))) 1)) + Ht)))) (rv_add (a := (wk .i64 (gshr .u64 (wk .u64 (w64 (Ej + Hu))) 1))) (b := Ht) rfl rfl) (sa (I (w64 ((wk .i64 (gshr .u64 (wk .u64 (w64 (Ej + Hu))) 1)) + Ht))) rfl (w_end (q_then ?_)))))))))))
    refine c_seq (rg (sa (I 0) rfl (sa (I 0) rfl (w_end (q_then (c_seq (c_seq (rg (sm (I Ht) rfl (sm (I (wk .i64 (gshr .u64 (wk .u64 (w64 (Ej + Hu))) 1))) rfl (st (v := (B (decide ((wk .i64 (gshr .u64 (wk .u64 (w64 (Ej + Hu))) 1)) < Ht)))) (rv_gtr (a := Ht) (b := (wk .i64 (gshr .u64 (wk .u64 (w64 (Ej + Hu))) 1))) rfl rfl) ?_)))))))))))
    refine w_end (q_then ?_)
    obtain ⟨o113, hj, h'⟩ := bind_some h
    clear h
    refine c_cut (fun e a w => e = .normal ∧ ∃ (ρ : Nat → Value) (σ : St), a = fr 220 (updL ρ [(0, (Sl Gh Ge Gi)), (1, (I Ej)), (2, (I Ht)), (3, (I Hu)), (4, (.func (.func 78) #[] #[(pt Hf Hg), (pt Hn Ho)])), (18, (I (wk .i64 (gshr .u64 (wk .u64 (w64 (Ej + Hu))) 1)))), (19, (I (w64 ((wk .i64 (gshr .u64 (wk .u64 (w64 (Ej + Hu))) 1)) + Ht)))), (20, (I o113.1)), (21, (I o113.2))]) ∧ w = σ.w ∧ Hp S0 σ0 σ [Ch.own 0 0 (Sl Gh Ge Gi) Ge, Ch.ro 0 (Sl Hc Gz Hd) Gz, Ch.bx He Hf Hg [(Sl Hc Gz Hd)] Hi Hj, Ch.ro 0 (Sl Hk Ha Hl) Ha, Ch.bx Hm Hn Ho [(Sl Hk Ha Hl)] Hq Hr]) ?_ ?_
    ·clear h'
     rename _ = some o113 => h
     refine cd_cond (decide ((wk .i64 (gshr .u64 (wk .u64 (w64 (Ej + Hu))) 1)) < Ht)) rfl (fun hb114 => ?_) (fun hb114 => ?_)
     ·replace h := bif_t hb114 h
      refine c_seq (rg (sm (I (w64 ((wk .i64 (gshr .u64 (wk .u64 (w64 (Ej + Hu))) 1)) + Ht))) rfl (sm (I Hu) rfl (st (v := (I (w64 ((w64 ((wk .i64 (gshr .u64 (wk .u64 (w64 (Ej + Hu))) 1)) + Ht)) - Hu)))) (rv_sub (a := (w64 ((wk .i64 (gshr .u64 (wk .u64 (w64 (Ej + Hu))) 1)) + Ht))) (b := Hu) rfl rfl) (sa (I (w64 ((w64 ((wk .i64 (gshr .u64 (wk .u64 (w64 (Ej + Hu))) 1)) + Ht)) - Hu))) rfl (w_end (q_then (rg (sm (I (wk .i64 (gshr .u64 (wk .u64 (w64 (Ej + Hu))) 1))) rfl (sa (I (wk .i64 (gshr .u64 (wk .u64 (w64 (Ej + Hu))) 1))) rfl (w_end ?_)))))))))))
      obtain rfl := sj h
      exact ⟨rfl, _, σ0, fr_join ⟨rfl, rfl, rfl, rfl, rfl, rfl, rfl, rfl, rfl, trivial⟩, rfl, H.sel' [0, 2, 1, 4, 3] rfl rfl⟩
     ·replace h := bif_f hb114 h
      refine c_seq (rg (sm (I Ej) rfl (sa (I Ej) rfl (w_end (q_then (rg (sm (I Ht) rfl (sa (I Ht) rfl (w_end ?_)))))))))
      obtain rfl := sj h
      exact ⟨rfl, _, σ0, fr_join ⟨rfl, rfl, rfl, rfl, rfl, rfl, rfl, rfl, rfl, trivial⟩, rfl, H.sel' [0, 2, 1, 4, 3] rfl rfl⟩
    ·clear hj
     have h := h'
     clear h' H
     rintro e a w ⟨rfl, ρ, σ115, rfl, rfl, H⟩
     refine q_then (c_seq (rg (sm (I (w64 ((wk .i64 (gshr .u64 (wk .u64 (w64 (Ej + Hu))) 1)) + Ht))) rfl (st (v := (I (w64 ((w64 ((wk .i64 (gshr .u64 (wk .u64 (w64 (Ej + Hu))) 1)) + Ht)) - 1)))) (rv_sub (a := (w64 ((wk .i64 (gshr .u64 (wk .u64 (w64 (Ej + Hu))) 1)) + Ht))) (b := 1) rfl rfl) (sa (I (w64 ((w64 ((wk .i64 (gshr .u64 (wk .u64 (w64 (Ej + Hu))) 1)) + Ht)) - 1))) rfl (w_end (q_then (c_seq ?_))))))))
     obtain ⟨o116, hj, h'⟩ := bind_some h
     clear h
     refine c_cut (fun e a w => e = .normal ∧ ∃ (ρ : Nat → Value) (σ : St), a = fr 220 (updL ρ [(0, (Sl Gh Ge Gi)), (1, (I Ej)), (2, (I Ht)), (3, (I Hu)), (4, (.func (.func 78) #[] #[(pt Hf Hg), (pt Hn Ho)])), (18, (I (wk .i64 (gshr .u64 (wk .u64 (w64 (Ej + Hu))) 1)))), (19, (I (w64 ((wk .i64 (gshr .u64 (wk .u64 (w64 (Ej + Hu))) 1)) + Ht)))), (20, (I o116))]) ∧ w = σ.w ∧ Hp S0 σ0 σ [Ch.own 0 0 (Sl Gh Ge Gi) Ge, Ch.ro 0 (Sl Hc Gz Hd) Gz, Ch.bx He Hf Hg [(Sl Hc Gz Hd)] Hi Hj, Ch.ro 0 (Sl Hk Ha Hl) Ha, Ch.bx Hm Hn Ho [(Sl Hk Ha Hl)] Hq Hr]) ?_ ?_
     ·clear h'
      rename _ = some o116 => h
      refine c_blk (wp_loopM _ h (fun s117 a w => ∃ (ρ : Nat → Value) (σ : St), a = fr 220 (updL ρ [(0, (Sl Gh Ge Gi)), (1, (I Ej)), (2, (I Ht)), (3, (I Hu)), (4, (.func (.func 78) #[] #[(pt Hf Hg), (pt Hn Ho)])), (18, (I (wk .i64 (gshr .u64 (wk .u64 (w64 (Ej + Hu))) 1)))), (19, (I (w64 ((wk .i64 (gshr .u64 (wk .u64 (w64 (Ej + Hu))) 1)) + Ht)))), (20, (I s117.1)), (21, (I s117.2)), (22, (I (w64 ((w64 ((wk .i64 (gshr .u64 (wk .u64 (w64 (Ej + Hu))) 1)) + Ht)) - 1))))]) ∧ w = σ.w ∧ Hp S0 σ0 σ [Ch.own 0 0 (Sl Gh Ge Gi) Ge, Ch.ro 0 (Sl Hc Gz Hd) Gz, Ch.bx He Hf Hg [(Sl Hc Gz Hd)] Hi Hj, Ch.ro 0 (Sl Hk Ha Hl) Ha, Ch.bx Hm Hn Ho [(Sl Hk Ha Hl)] Hq Hr]) ⟨_, σ115, fr_join ⟨rfl, rfl, rfl, rfl, rfl, rfl, rfl, rfl, rfl, rfl, trivial⟩, rfl, H.sel' [0, 1, 2, 3, 4] rfl rfl⟩ ?_)
      clear h H
      rintro s117 a w o ⟨ρ, σ118, rfl, rfl, H⟩ h hres
      refine c_seq (c_seq (rg (sm (I s117.1) rfl (sm (I s117.2) rfl (st (v := (B (decide (s117.1 < s117.2)))) (rv_lss (a := s117.1) (b := s117.2) rfl rfl) (w_end (q_then ?_)))))))
      refine cd_cond (decide (s117.1 < s117.2)) rfl (fun hb119 => ?_) (fun hb119 => ?_)
      ·replace h := bif_t hb119 h
       refine c_skip (q_then (c_blk (c_seq (rg (sm (I s117.1) rfl (sm (I s117.2) rfl (st (v := (I (w64 (s117.1 + s117.2)))) (rv_add (a := s117.1) (b := s117.2) rfl rfl) (st (v := (.int .u64 (wk .u64 (w64 (s117.1 + s117.2))))) (rvk_conv (k := .i64) (k' := .u64) (a := (w64 (s117.1 + s117.2))) Tryz.underlying3 Tryz.underlying99 rfl) ?_))))))))
       refine st (v := (.int .u64 (gshr .u64 (wk .u64 (w64 (s117.1 + s117.2))) 1))) (rvk_shr (k := .u64) (k' := .u64) (a := (wk .u64 (w64 (s117.1 + s117.2)))) (b := 1) rfl rfl (by decide)) ?_
       refine st (v := (I (wk .i64 (gshr .u64 (wk .u64 (w64 (s117.1 + s117.2))) 1)))) (rvk_conv (k := .u64) (k' := .i64) (a := (gshr .u64 (wk .u64 (w64 (s117.1 + s117.2))) 1)) Tryz.underlying99 Tryz.underlying3 rfl) (sa (I (wk .i64 (gshr .u64 (wk .u64 (w64 (s117.1 + s117.2))) 1))) rfl (w_end (q_then (c_seq ?_))))
       refine rgP (σ := σ118) 11 (by kernel_rfl) (by kernel_rfl) (by kernel_rfl) ?_
       refine sq (v := (.func (.func 78) #[] #[(pt Hf Hg), (pt Hn Ho)])) (rv_move rfl) (sq (v := (Sl Gh Ge Gi)) (rv_move rfl) (sq (v := (I (w64 ((w64 ((wk .i64 (gshr .u64 (wk .u64 (w64 (Ej + Hu))) 1)) + Ht)) - 1)))) (rv_move rfl) (sq (v := (I (wk .i64 (gshr .u64 (wk .u64 (w64 (s117.1 + s117.2))) 1)))) (rv_move rfl) (sq (v := (I (w64 ((w64 ((w64 ((wk .i64 (gshr .u64 (wk .u64 (w64 (Ej + Hu))) 1)) + Ht)) - 1)) - (wk .i64 (gshr .u64 (wk .u64 (w64 (s117.1 + s117.2))) 1)))))) (rv_sub (a := (w64 ((w64 ((wk .i64 (gshr .u64 (wk .u64 (w64 (Ej + Hu))) 1)) + Ht)) - 1))) (b := (wk .i64 (gshr .u64 (wk .u64 (w64 (s117.1 + s117.2))) 1))) rfl rfl) ?_))))
       revert h; refine br fun x120 hx121 h => ?_
       obtain ⟨b123, o124, hi122, -⟩ := (H.own 0 rfl).ix hx121
       refine sq (v := (pt b123 o124)) (rv_ix Tryz.underlying25 ti3 rfl rfl hi122) ?_
       have hc125 := ((H.own 0 rfl).at hx121 hi122).int
       refine sq (v := (I x120)) (rv_load1 Tryz.underlying3 rfl rfl hc125) (sq (v := (Sl Gh Ge Gi)) (rv_move rfl) (sq (v := (I (wk .i64 (gshr .u64 (wk .u64 (w64 (s117.1 + s117.2))) 1)))) (rv_move rfl) ?_))
       revert h; refine br fun x126 hx127 h => ?_
       obtain ⟨b129, o130, hi128, -⟩ := (H.own 0 rfl).ix hx127
       refine sq (v := (pt b129 o130)) (rv_ix Tryz.underlying25 ti3 rfl rfl hi128) ?_
       have hc131 := ((H.own 0 rfl).at hx127 hi128).int
       refine sq (v := (I x126)) (rv_load1 Tryz.underlying3 rfl rfl hc131) (sq_end ?_)
       intro σ132 hm133
       replace H := H.grow (hm133.mono fun _ h => h); clear hm133
       revert h; refine br fun r134 hx135 h => ?_
       have hc136 := c_impl_ProbeOrder_1__p_SSint__p24 (Fa := He) (Fb := Hf) (Fc := Hg) (Fd := Hi) (Fe := Hj) (Ey := Hc) (Ez := Hd) (Fy := Hm) (Ga := Hn) (Gb := Ho) (Gc := Hq) (Gd := Hr) (Fw := Hk) (Fx := Hl) hx135
       refine st_call (cx_call hc136 (ent_v (cap := [(pt Hf Hg), (pt Hn Ho)]) hc136.fn rfl rfl) hn0 (H.sel' [2, 1, 4, 3, 0, 1, 3] rfl rfl : Hp S0 σ0 _ ([_, _, _, _] ++ _))) wn ?_
       rintro _ σ137 ⟨_, ⟨rfl, rfl⟩, H, -⟩
       replace H : Hp _ _ _ [_, _, _, _, _] := H
       refine st (v := (B (decide (r134 < 0)))) (rv_lss (a := r134) (b := 0) rfl rfl) (st (v := (B (!(decide (r134 < 0))))) (rv_not rfl) (w_end (q_then ?_)))
       refine cd_cond (!(decide (r134 < 0))) rfl (fun hb138 => ?_) (fun hb138 => ?_)
       ·replace h := bif_t hb138 h
        refine rg (sm (I (wk .i64 (gshr .u64 (wk .u64 (w64 (s117.1 + s117.2))) 1))) rfl (st (v := (I (w64 ((wk .i64 (gshr .u64 (wk .u64 (w64 (s117.1 + s117.2))) 1)) + 1)))) (rv_add (a := (wk .i64 (gshr .u64 (wk .u64 (w64 (s117.1 + s117.2))) 1))) (b := 1) rfl rfl) (sa (I (w64 ((wk .i64 (gshr .u64 (wk .u64 (w64 (s117.1 + s117.2))) 1)) + 1))) rfl (w_end (q_blk (q_then ?_))))))
        obtain rfl := sj h
        exact ⟨_, rfl, _, σ137, fr_join ⟨rfl, rfl, rfl, rfl, rfl, rfl, rfl, rfl, rfl, rfl, trivial⟩, rfl, H.sel' [2, 3, 0, 4, 1] rfl rfl⟩
       ·replace h := bif_f hb138 h
        refine rg (sm (I (wk .i64 (gshr .u64 (wk .u64 (w64 (s117.1 + s117.2))) 1))) rfl (sa (I (wk .i64 (gshr .u64 (wk .u64 (w64 (s117.1 + s117.2))) 1))) rfl (w_end (q_blk (q_then ?_)))))
        obtain rfl := sj h
        exact ⟨_, rfl, _, σ137, fr_join ⟨rfl, rfl, rfl, rfl, rfl, rfl, rfl, rfl, rfl, rfl, trivial⟩, rfl, H.sel' [2, 3, 0, 4, 1] rfl rfl⟩
      ·replace h := bif_f hb119 h
       refine c_exit (q_then_x (q_then_x (q_blk_hit ?_)))
       obtain rfl := sj h
       obtain rfl := hres _ rfl
       exact ⟨rfl, _, σ118, fr_join ⟨rfl, rfl, rfl, rfl, rfl, rfl, rfl, rfl, trivial⟩, rfl, H.sel' [0, 1, 2, 3, 4] rfl rfl⟩
     ·clear hj
      have h := h'
      clear h' H
      rintro e a w ⟨rfl, ρ, σ139, rfl, rfl, H⟩
      refine q_then (c_seq (rg (sm (I (w64 ((wk .i64 (gshr .u64 (wk .u64 (w64 (Ej + Hu))) 1)) + Ht))) rfl (sm (I o116) rfl (st (v := (I (w64 ((w64 ((wk .i64 (gshr .u64 (wk .u64 (w64 (Ej + Hu))) 1)) + Ht)) - o116)))) (rv_sub (a := (w64 ((wk .i64 (gshr .u64 (wk .u64 (w64 (Ej + Hu))) 1)) + Ht))) (b := o116) rfl rfl) (sa (I (w64 ((w64 ((wk .i64 (gshr .u64 (wk .u64 (w64 (Ej + Hu))) 1)) + Ht)) - o116))) rfl (w_end (q_then (c_seq (c_seq ?_))))))))))
      obtain ⟨o140, hj, h'⟩ := bind_some h
      clear h
      refine c_cut (fun e a w => e = .normal ∧ ∃ (ρ : Nat → Value) (σ : St), a = fr 220 (updL ρ [(0, (Sl Gh Ge Gi)), (1, (I Ej)), (2, (I Ht)), (3, (I Hu)), (4, (.func (.func 78) #[] #[(pt Hf Hg), (pt Hn Ho)])), (18, (I (wk .i64 (gshr .u64 (wk .u64 (w64 (Ej + Hu))) 1)))), (20, (I o116)), (24, (I (w64 ((w64 ((wk .i64 (gshr .u64 (wk .u64 (w64 (Ej + Hu))) 1)) + Ht)) - o116)))), (185, (B o140))]) ∧ w = σ.w ∧ Hp S0 σ0 σ [Ch.own 0 0 (Sl Gh Ge Gi) Ge, Ch.ro 0 (Sl Hc Gz Hd) Gz, Ch.bx He Hf Hg [(Sl Hc Gz Hd)] Hi Hj, Ch.ro 0 (Sl Hk Ha Hl) Ha, Ch.bx Hm Hn Ho [(Sl Hk Ha Hl)] Hq Hr]) ?_ ?_
      ·clear h'
       rename _ = some o140 => h
       refine rg (sm (I o116) rfl (sm (I Ht) rfl (st (v := (B (decide (o116 < Ht)))) (rv_lss (a := o116) (b := Ht) rfl rfl) (sm (B (decide (o116 < Ht))) rfl ?_))))
       rcases Bool.eq_false_or_eq_true (decide (o116 < Ht)) with hb141 | hb141
       ·replace h := bif_t hb141 h
        refine st_g (v := (I Ht)) (congrArg some hb141) (rv_move rfl) (st_g (v := (I (w64 ((w64 ((wk .i64 (gshr .u64 (wk .u64 (w64 (Ej + Hu))) 1)) + Ht)) - o116)))) (congrArg some hb141) (rv_move rfl) (st_g (v := (B (decide (Ht < (w64 ((w64 ((wk .i64 (gshr .u64 (wk .u64 (w64 (Ej + Hu))) 1)) + Ht)) - o116)))))) (congrArg some hb141) (rv_lss (a := Ht) (b := (w64 ((w64 ((wk .i64 (gshr .u64 (wk .u64 (w64 (Ej + Hu))) 1)) + Ht)) - o116))) rfl rfl) (st (v := (B (decide (Ht < (w64 ((w64 ((wk .i64 (gshr .u64 (wk .u64 (w64 (Ej + Hu))) 1)) + Ht)) - o116)))))) (rv_pick_t (congrArg B hb141) rfl) (w_end ?_))))
        obtain rfl := sj h
        exact ⟨rfl, _, σ139, fr_join ⟨rfl, rfl, rfl, rfl, rfl, rfl, rfl, rfl, rfl, trivial⟩, rfl, H.sel' [0, 1, 2, 3, 4] rfl rfl⟩
       ·replace h := bif_f hb141 h
        refine st_skip (congrArg some hb141) (st_skip (congrArg some hb141) (st_skip (congrArg some hb141) (st (v := (B false)) (rv_pick_f (congrArg B hb141) rfl) (w_end ?_))))
        obtain rfl := sj h
        exact ⟨rfl, _, σ139, fr_join ⟨rfl, rfl, rfl, rfl, rfl, rfl, rfl, rfl, rfl, trivial⟩, rfl, H.sel' [0, 1, 2, 3, 4] rfl rfl⟩
      ·clear hj
       have h := h'
       clear h' H
       rintro e a w ⟨rfl, ρ, σ142, rfl, rfl, H⟩
       refine q_then ?_
       obtain ⟨o143, hj, h'⟩ := bind_some h
       clear h
       refine c_cut (fun e a w => e = .normal ∧ ∃ (ρ : Nat → Value) (σ : St), a = fr 220 (updL ρ [(0, (Sl Gh o143 Gi)), (1, (I Ej)), (3, (I Hu)), (4, (.func (.func 78) #[] #[(pt Hf Hg), (pt Hn Ho)])), (18, (I (wk .i64 (gshr .u64 (wk .u64 (w64 (Ej + Hu))) 1)))), (20, (I o116)), (24, (I (w64 ((w64 ((wk .i64 (gshr .u64 (wk .u64 (w64 (Ej + Hu))) 1)) + Ht)) - o116))))]) ∧ w = σ.w ∧ Hp S0 σ0 σ [Ch.own 0 0 (Sl Gh o143 Gi) o143, Ch.ro 0 (Sl Hc Gz Hd) Gz, Ch.bx He Hf Hg [(Sl Hc Gz Hd)] Hi Hj, Ch.ro 0 (Sl Hk Ha Hl) Ha, Ch.bx Hm Hn Ho [(Sl Hk Ha Hl)] Hq Hr] ∧ o143.length = Ge.length) ?_ ?_
       ·clear h'
        rename _ = some o143 => h
        refine cd_cond o140 rfl (fun hb144 => ?_) (fun hb144 => ?_)
        ·replace h := bif_t hb144 h
         refine rg (sm (Sl Gh Ge Gi) rfl (sm (I o116) rfl (sm (I Ht) rfl (sm (I (w64 ((w64 ((wk .i64 (gshr .u64 (wk .u64 (w64 (Ej + Hu))) 1)) + Ht)) - o116))) rfl (sm (.func (.func 78) #[] #[(pt Hf Hg), (pt Hn Ho)]) rfl ?_)))))
         revert h; refine br fun r145 hx146 h => ?_
         have hc147 := c_slices_rotateCmpFunc_int__impl_ProbeOrder_1 (Gh := Gh) (Gi := Gi) (He := He) (Hf := Hf) (Hg := Hg) (Hi := Hi) (Hj := Hj) (Hc := Hc) (Hd := Hd) (Hm := Hm) (Hn := Hn) (Ho := Ho) (Hq := Hq) (Hr := Hr) (Hk := Hk) (Hl := Hl) hx146
         refine st_call (cx_call hc147 (ent_f hc147.fn rfl) hn0 (H.sel' [0, 2, 1, 4, 3, 1, 3] rfl rfl : Hp S0 σ0 _ ([_, _, _, _, _] ++ _))) wn ?_
         rintro _ σ149 ⟨_, ⟨rfl, rfl, hn148⟩, H, -⟩
         replace H : Hp _ _ _ [_, _, _, _, _] := H
         have hsl : (Sl Gh Ge Gi) = (Sl Gh r145 Gi) := sl_len hn148.symm
         try rw [hsl]
         try rw [hsl] at H
         clear hsl
         refine w_end ?_
         obtain rfl := sj h
         exact ⟨rfl, _, σ149, fr_join ⟨rfl, rfl, rfl, rfl, rfl, rfl, rfl, trivial⟩, rfl, H.sel' [0, 3, 1, 4, 2] rfl rfl, hn148⟩
        ·replace h := bif_f hb144 h
         refine c_skip ?_
         obtain rfl := sj h
         exact ⟨rfl, _, σ142, fr_join ⟨rfl, rfl, rfl, rfl, rfl, rfl, rfl, trivial⟩, rfl, H.sel' [0, 1, 2, 3, 4] rfl rfl, rfl⟩
       ·clear hj
        have h := h'
        clear h' H
        rintro e a w ⟨rfl, ρ, σ150, rfl, rfl, H, hn151⟩
        refine q_then (c_seq (c_seq ?_))
        obtain ⟨o152, hj, h'⟩ := bind_some h
        clear h
        refine c_cut (fun e a w => e = .normal ∧ ∃ (ρ : Nat → Value) (σ : St), a = fr 220 (updL ρ [(0, (Sl Gh o143 Gi)), (1, (I Ej)), (3, (I Hu)), (4, (.func (.func 78) #[] #[(pt Hf Hg), (pt Hn Ho)])), (18, (I (wk .i64 (gshr .u64 (wk .u64 (w64 (Ej + Hu))) 1)))), (20, (I o116)), (24, (I (w64 ((w64 ((wk .i64 (gshr .u64 (wk .u64 (w64 (Ej + Hu))) 1)) + Ht)) - o116)))), (199, (B o152))]) ∧ w = σ.w ∧ Hp S0 σ0 σ [Ch.own 0 0 (Sl Gh o143 Gi) o143, Ch.ro 0 (Sl Hc Gz Hd) Gz, Ch.bx He Hf Hg [(Sl Hc Gz Hd)] Hi Hj, Ch.ro 0 (Sl Hk Ha Hl) Ha, Ch.bx Hm Hn Ho [(Sl Hk Ha Hl)] Hq Hr]) ?_ ?_
        ·clear h'
         rename _ = some o152 => h
         refine rg (sm (I Ej) rfl (sm (I o116) rfl (st (v := (B (decide (Ej < o116)))) (rv_lss (a := Ej) (b := o116) rfl rfl) (sm (B (decide (Ej < o116))) rfl ?_))))
         rcases Bool.eq_false_or_eq_true (decide (Ej < o116)) with hb153 | hb153
         ·replace h := bif_t hb153 h
          refine st_g (v := (I o116)) (congrArg some hb153) (rv_move rfl) (st_g (v := (I (wk .i64 (gshr .u64 (wk .u64 (w64 (Ej + Hu))) 1)))) (congrArg some hb153) (rv_move rfl) (st_g (v := (B (decide (o116 < (wk .i64 (gshr .u64 (wk .u64 (w64 (Ej + Hu))) 1)))))) (congrArg some hb153) (rv_lss (a := o116) (b := (wk .i64 (gshr .u64 (wk .u64 (w64 (Ej + Hu))) 1))) rfl rfl) (st (v := (B (decide (o116 < (wk .i64 (gshr .u64 (wk .u64 (w64 (Ej + Hu))) 1)))))) (rv_pick_t (congrArg B hb153) rfl) (w_end ?_))))
          obtain rfl := sj h
          exact ⟨rfl, _, σ150, fr_join ⟨rfl, rfl, rfl, rfl, rfl, rfl, rfl, rfl, trivial⟩, rfl, H.sel' [0, 1, 2, 3, 4] rfl rfl⟩
         ·replace h := bif_f hb153 h
          refine st_skip (congrArg some hb153) (st_skip (congrArg some hb153) (st_skip (congrArg some hb153) (st (v := (B false)) (rv_pick_f (congrArg B hb153) rfl) (w_end ?_))))
          obtain rfl := sj h
          exact ⟨rfl, _, σ150, fr_join ⟨rfl, rfl, rfl, rfl, rfl, rfl, rfl, rfl, trivial⟩, rfl, H.sel' [0, 1, 2, 3, 4] rfl rfl⟩
        ·clear hj
         have h := h'
         clear h' H
         rintro e a w ⟨rfl, ρ, σ154, rfl, rfl, H⟩
         refine q_then ?_
         obtain ⟨o155, hj, h'⟩ := bind_some h
         clear h
         refine c_cut (fun e a w => e = .normal ∧ ∃ (ρ : Nat → Value) (σ : St), a = fr 220 (updL ρ [(0, (Sl Gh o155 Gi)), (3, (I Hu)), (4, (.func (.func 78) #[] #[(pt Hf Hg), (pt Hn Ho)])), (18, (I (wk .i64 (gshr .u64 (wk .u64 (w64 (Ej + Hu))) 1)))), (24, (I (w64 ((w64 ((wk .i64 (gshr .u64 (wk .u64 (w64 (Ej + Hu))) 1)) + Ht)) - o116))))]) ∧ w = σ.w ∧ Hp S0 σ0 σ [Ch.own 0 0 (Sl Gh o155 Gi) o155, Ch.ro 0 (Sl Hc Gz Hd) Gz, Ch.bx He Hf Hg [(Sl Hc Gz Hd)] Hi Hj, Ch.ro 0 (Sl Hk Ha Hl) Ha, Ch.bx Hm Hn Ho [(Sl Hk Ha Hl)] Hq Hr] ∧ o155.length = o143.length) ?_ ?_
         ·clear h'
          rename _ = some o155 => h
          refine cd_cond o152 rfl (fun hb156 => ?_) (fun hb156 => ?_)
          ·replace h := bif_t hb156 h
           refine rg (sm (Sl Gh o143 Gi) rfl (sm (I Ej) rfl (sm (I o116) rfl (sm (I (wk .i64 (gshr .u64 (wk .u64 (w64 (Ej + Hu))) 1))) rfl (sm (.func (.func 78) #[] #[(pt Hf Hg), (pt Hn Ho)]) rfl ?_)))))
           revert h; refine br fun r157 hx158 h => ?_
           have hc159 := ih (Gh := Gh) (Gi := Gi) (He := He) (Hf := Hf) (Hg := Hg) (Hi := Hi) (Hj := Hj) (Hc := Hc) (Hd := Hd) (Hm := Hm) (Hn := Hn) (Ho := Ho) (Hq := Hq) (Hr := Hr) (Hk := Hk) (Hl := Hl) hx158
           refine st_call (cx_call hc159 (ent_f hc159.fn rfl) hn0 (H.sel' [0, 2, 1, 4, 3, 1, 3] rfl rfl : Hp S0 σ0 _ ([_, _, _, _, _] ++ _))) wn ?_
           rintro _ σ161 ⟨_, ⟨rfl, rfl, hn160⟩, H, -⟩
           replace H : Hp _ _ _ [_, _, _, _, _] := H
           have hsl : (Sl Gh o143 Gi) = (Sl Gh r157 Gi) := sl_len hn160.symm
           try rw [hsl]
           try rw [hsl] at H
           clear hsl
           refine w_end ?_
           obtain rfl := sj h
           exact ⟨rfl, _, σ161, fr_join ⟨rfl, rfl, rfl, rfl, rfl, trivial⟩, rfl, H.sel' [0, 3, 1, 4, 2] rfl rfl, ((hn160.trans hn151).trans hn151.symm)⟩
          ·replace h := bif_f hb156 h
           refine c_skip ?_
           obtain rfl := sj h
           exact ⟨rfl, _, σ154, fr_join ⟨rfl, rfl, rfl, rfl, rfl, trivial⟩, rfl, H.sel' [0, 1, 2, 3, 4] rfl rfl, rfl⟩
         ·clear hj
          have h := h'
          clear h' H
          rintro e a w ⟨rfl, ρ, σ162, rfl, rfl, H, hn163⟩
          refine q_then (c_seq ?_)
          obtain ⟨o164, hj, h'⟩ := bind_some h
          clear h
          refine c_cut (fun e a w => e = .normal ∧ ∃ (ρ : Nat → Value) (σ : St), a = fr 220 (updL ρ [(0, (Sl Gh o155 Gi)), (3, (I Hu)), (4, (.func (.func 78) #[] #[(pt Hf Hg), (pt Hn Ho)])), (18, (I (wk .i64 (gshr .u64 (wk .u64 (w64 (Ej + Hu))) 1)))), (24, (I (w64 ((w64 ((wk .i64 (gshr .u64 (wk .u64 (w64 (Ej + Hu))) 1)) + Ht)) - o116)))), (213, (B o164))]) ∧ w = σ.w ∧ Hp S0 σ0 σ [Ch.own 0 0 (Sl Gh o155 Gi) o155, Ch.ro 0 (Sl Hc Gz Hd) Gz, Ch.bx He Hf Hg [(Sl Hc Gz Hd)] Hi Hj, Ch.ro 0 (Sl Hk Ha Hl) Ha, Ch.bx Hm Hn Ho [(Sl Hk Ha Hl)] Hq Hr]) ?_ ?_
          ·clear h'
           rename _ = some o164 => h
           refine rg (sm (I (wk .i64 (gshr .u64 (wk .u64 (w64 (Ej + Hu))) 1))) rfl (sm (I (w64 ((w64 ((wk .i64 (gshr .u64 (wk .u64 (w64 (Ej + Hu))) 1)) + Ht)) - o116))) rfl (st (v := (B (decide ((wk .i64 (gshr .u64 (wk .u64 (w64 (Ej + Hu))) 1)) < (w64 ((w64 ((wk .i64 (gshr .u64 (wk .u64 (w64 (Ej + Hu))) 1)) + Ht)) - o116)))))) (rv_lss (a := (wk .i64 (gshr .u64 (wk .u64 (w64 (Ej + Hu))) 1))) (b := (w64 ((w64 ((wk .i64 (gshr .u64 (wk .u64 (w64 (Ej + Hu))) 1)) + Ht)) - o116))) rfl rfl) (sm (B (decide ((wk .i64 (gshr .u64 (wk .u64 (w64 (Ej + Hu))) 1)) < (w64 ((w64 ((wk .i64 (gshr .u64 (wk .u64 (w64 (Ej + Hu))) 1)) + Ht)) - o116))))) rfl ?_))))
           rcases Bool.eq_false_or_eq_true (decide ((wk .i64 (gshr .u64 (wk .u64 (w64 (Ej + Hu))) 1)) < (w64 ((w64 ((wk .i64 (gshr .u64 (wk .u64 (w64 (Ej + Hu))) 1)) + Ht)) - o116)))) with hb165 | hb165
           ·replace h := bif_t hb165 h
            refine st_g (v := (I (w64 ((w64 ((wk .i64 (gshr .u64 (wk .u64 (w64 (Ej + Hu))) 1)) + Ht)) - o116)))) (congrArg some hb165) (rv_move rfl) (st_g (v := (I Hu)) (congrArg some hb165) (rv_move rfl) (st_g (v := (B (decide ((w64 ((w64 ((wk .i64 (gshr .u64 (wk .u64 (w64 (Ej + Hu))) 1)) + Ht)) - o116)) < Hu)))) (congrArg some hb165) (rv_lss (a := (w64 ((w64 ((wk .i64 (gshr .u64 (wk .u64 (w64 (Ej + Hu))) 1)) + Ht)) - o116))) (b := Hu) rfl rfl) (st (v := (B (decide ((w64 ((w64 ((wk .i64 (gshr .u64 (wk .u64 (w64 (Ej + Hu))) 1)) + Ht)) - o116)) < Hu)))) (rv_pick_t (congrArg B hb165) rfl) (w_end ?_))))
            obtain rfl := sj h
            exact ⟨rfl, _, σ162, fr_join ⟨rfl, rfl, rfl, rfl, rfl, rfl, trivial⟩, rfl, H.sel' [0, 1, 2, 3, 4] rfl rfl⟩
           ·replace h := bif_f hb165 h
            refine st_skip (congrArg some hb165) (st_skip (congrArg some hb165) (st_skip (congrArg some hb165) (st (v := (B false)) (rv_pick_f (congrArg B hb165) rfl) (w_end ?_))))
            obtain rfl := sj h
            exact ⟨rfl, _, σ162, fr_join ⟨rfl, rfl, rfl, rfl, rfl, rfl, trivial⟩, rfl, H.sel' [0, 1, 2, 3, 4] rfl rfl⟩
          ·clear hj
           have h := h'
           clear h' H
           rintro e a w ⟨rfl, ρ, σ166, rfl, rfl, H⟩
           refine q_then ?_
           refine cd_cond o164 rfl (fun hb167 => ?_) (fun hb167 => ?_)
           ·replace h := bif_t hb167 h
            refine rg (sm (Sl Gh o155 Gi) rfl (sm (I (wk .i64 (gshr .u64 (wk .u64 (w64 (Ej + Hu))) 1))) rfl (sm (I (w64 ((w64 ((wk .i64 (gshr .u64 (wk .u64 (w64 (Ej + Hu))) 1)) + Ht)) - o116))) rfl (sm (I Hu) rfl (sm (.func (.func 78) #[] #[(pt Hf Hg), (pt Hn Ho)]) rfl ?_)))))
            revert h; refine br fun r168 hx169 h => ?_
            have hc170 := ih (Gh := Gh) (Gi := Gi) (He := He) (Hf := Hf) (Hg := Hg) (Hi := Hi) (Hj := Hj) (Hc := Hc) (Hd := Hd) (Hm := Hm) (Hn := Hn) (Ho := Ho) (Hq := Hq) (Hr := Hr) (Hk := Hk) (Hl := Hl) hx169
            refine st_call (cx_call hc170 (ent_f hc170.fn rfl) hn0 (H.sel' [0, 2, 1, 4, 3, 1, 3] rfl rfl : Hp S0 σ0 _ ([_, _, _, _, _] ++ _))) wn ?_
            rintro _ σ172 ⟨_, ⟨rfl, rfl, hn171⟩, H, -⟩
            replace H : Hp _ _ _ [_, _, _, _, _] := H
            have hsl : (Sl Gh o155 Gi) = (Sl Gh r168 Gi) := sl_len hn171.symm
            try rw [hsl]
            try rw [hsl] at H
            clear hsl
            refine w_end ?_
            obtain rfl := sj h
            exact fin_end (v := (.tuple #[])) (results_ok Tryz.results104 res_nil rfl) ⟨rfl, rfl, (hn171.trans (hn163.trans hn151))⟩ (H.sel' [0, 1, 2] rfl rfl)
           ·replace h := bif_f hb167 h
            refine c_skip ?_
            obtain rfl := sj h
            exact fin_end (v := (.tuple #[])) (results_ok Tryz.results104 res_nil rfl) ⟨rfl, rfl, (hn163.trans hn151)⟩ (H.sel' [0, 2, 4] rfl rfl)

theorem c_slices_stableCmpFunc_int__impl_ProbeOrder_1 {Ge : List Int} {Af : Int} {Hv : List (List Int)} {Hw : List Int} {Gh : Option Addr} {Gi : Nat} {Hx : Option Addr} {Hy : Nat} {Hz Ja Jb : Nat} {Jc Jd : List Value} {Je : Option Addr} {Jf : Nat} {Jg Jh Ji : Nat} {Jj Jk : List Value} {r : (List Int)} (h : M.slices_stableCmpFunc_int__impl_ProbeOrder_1 Ge Af Hv Hw = some r) :
    Cal2 Tryz.prog 94 [(Sl Gh Ge Gi), (I Af), (.func (.func 78) #[] #[(pt Ja Jb), (pt Jh Ji)])] [Ch.own 0 0 (Sl Gh Ge Gi) Ge, Ch.bx Hz Ja Jb [(Sl Hx Hv Hy)] Jc Jd, Ch.ro 0 (Sl Hx Hv Hy) Hv, Ch.bx Jg Jh Ji [(Sl Je Hw Jf)] Jj Jk, Ch.ro 0 (Sl Je Hw Jf) Hw] (fun n0 v L => v = (.tuple #[]) ∧ L = [Ch.own 0 0 (Sl Gh r Gi) r, Ch.bx Hz Ja Jb [(Sl Hx Hv Hy)] Jc Jd, Ch.bx Jg Jh Ji [(Sl Je Hw Jf)] Jj Jk] ∧ r.length = Ge.length) := by
 refine cal2 (n := 63) Tryz.func94 rfl rfl rfl rfl ?_
 intro S0 σ0 n0 hn0 H
 unfold M.slices_stableCmpFunc_int__impl_ProbeOrder_1 at h
 refine c_seq (rg (sa (I 20) rfl (w_end (q_then (c_seq (rg (sm (I 20) rfl (sa (I 0) rfl (sa (I 20) rfl (w_end (q_then ?_)))))))))))
 refine c_seq ?_
 obtain ⟨o1, hj, h'⟩ := bind_some h
 clear h
 refine c_cut (fun e a w => e = .normal ∧ ∃ (ρ : Nat → Value) (σ : St), a = fr 63 (updL ρ [(0, (Sl Gh o1.1 Gi)), (1, (I Af)), (2, (.func (.func 78) #[] #[(pt Ja Jb), (pt Jh Ji)])), (6, (I 20)), (7, (I o1.2))]) ∧ w = σ.w ∧ Hp S0 σ0 σ [Ch.own 0 0 (Sl Gh o1.1 Gi) o1.1, Ch.ro 0 (Sl Hx Hv Hy) Hv, Ch.bx Hz Ja Jb [(Sl Hx Hv Hy)] Jc Jd, Ch.ro 0 (Sl Je Hw Jf) Hw, Ch.bx Jg Jh Ji [(Sl Je Hw Jf)] Jj Jk] ∧ o1.1.length = Ge.length) ?_ ?_
 ·clear h'
  rename _ = some o1 => h
  refine c_blk (wp_loopM _ h (fun s2 a w => ∃ (ρ : Nat → Value) (σ : St), a = fr 63 (updL ρ [(0, (Sl Gh s2.1 Gi)), (1, (I Af)), (2, (.func (.func 78) #[] #[(pt Ja Jb), (pt Jh Ji)])), (6, (I 20)), (7, (I s2.2.1)), (8, (I s2.2.2))]) ∧ w = σ.w ∧ Hp S0 σ0 σ [Ch.own 0 0 (Sl Gh s2.1 Gi) s2.1, Ch.ro 0 (Sl Hx Hv Hy) Hv, Ch.bx Hz Ja Jb [(Sl Hx Hv Hy)] Jc Jd, Ch.ro 0 (Sl Je Hw Jf) Hw, Ch.bx Jg Jh Ji [(Sl Je Hw Jf)] Jj Jk] ∧ s2.1.length = Ge.length) ⟨_, σ0, fr_join ⟨rfl, rfl, rfl, rfl, rfl, rfl, trivial⟩, rfl, H.sel' [0, 2, 1, 4, 3] rfl rfl, rfl⟩ ?_)
  clear h H
  rintro s2 a w o ⟨ρ, σ3, rfl, rfl, H, hn4⟩ h hres
  refine c_seq (c_seq (rg (sm (I s2.2.2) rfl (sm (I Af) rfl (st (v := (B (decide (s2.2.2 ≤ Af)))) (rv_leq (a := s2.2.2) (b := Af) rfl rfl) (w_end (q_then ?_)))))))
  refine cd_cond (decide (s2.2.2 ≤ Af)) rfl (fun hb5 => ?_) (fun hb5 => ?_)
  ·replace h := bif_t hb5 h
   refine c_skip (q_then (c_blk (c_seq (rg (sm (Sl Gh s2.1 Gi) rfl (sm (I s2.2.1) rfl (sm (I s2.2.2) rfl (sm (.func (.func 78) #[] #[(pt Ja Jb), (pt Jh Ji)]) rfl ?_))))))))
   revert h; refine br fun r6 hx7 h => ?_
   have hc8 := c_slices_insertionSortCmpFunc_int__impl_ProbeOrder_1 (Gh := Gh) (Gi := Gi) (Gl := Hz) (Gm := Ja) (Gn := Jb) (Gp := Jc) (Gq := Jd) (Gj := Hx) (Gk := Hy) (Gt := Jg) (Gu := Jh) (Gv := Ji) (Gw := Jj) (Gx := Jk) (Gr := Je) (Gs := Jf) hx7
   refine st_call (cx_call hc8 (ent_f hc8.fn rfl) hn0 (H.sel' [0, 2, 1, 4, 3, 1, 3] rfl rfl : Hp S0 σ0 _ ([_, _, _, _, _] ++ _))) wn ?_
   rintro _ σ10 ⟨_, ⟨rfl, rfl, hn9⟩, H, -⟩
   replace H : Hp _ _ _ [_, _, _, _, _] := H
   have hsl : (Sl Gh s2.1 Gi) = (Sl Gh r6 Gi) := sl_len hn9.symm
   try rw [hsl]
   try rw [hsl] at H
   clear hsl
   refine w_end (q_then (c_seq (rg (sm (I s2.2.2) rfl (sa (I s2.2.2) rfl (w_end (q_then (rg (sm (I s2.2.2) rfl (sm (I 20) rfl (st (v := (I (w64 (s2.2.2 + 20)))) (rv_add (a := s2.2.2) (b := 20) rfl rfl) ?_)))))))))))
   refine sa (I (w64 (s2.2.2 + 20))) rfl (w_end (q_blk (q_then ?_)))
   obtain rfl := sj h
   exact ⟨_, rfl, _, σ10, fr_join ⟨rfl, rfl, rfl, rfl, rfl, rfl, trivial⟩, rfl, H.sel' [0, 3, 1, 4, 2] rfl rfl, (hn9.trans hn4)⟩
  ·replace h := bif_f hb5 h
   refine c_exit (q_then_x (q_then_x (q_blk_hit ?_)))
   obtain rfl := sj h
   obtain rfl := hres _ rfl
   exact ⟨rfl, _, σ3, fr_join ⟨rfl, rfl, rfl, rfl, rfl, trivial⟩, rfl, H.sel' [0, 1, 2, 3, 4] rfl rfl, hn4⟩
 ·clear hj
  have h := h'
  clear h' H
  rintro e a w ⟨rfl, ρ, σ11, rfl, rfl, H, hn12⟩
  refine q_then (c_seq (rg (sm (Sl Gh o1.1 Gi) rfl (sm (I o1.2) rfl (sm (I Af) rfl (sm (.func (.func 78) #[] #[(pt Ja Jb), (pt Jh Ji)]) rfl ?_))))))
  revert h; refine br fun r13 hx14 h => ?_
  have hc15 := c_slices_insertionSortCmpFunc_int__impl_ProbeOrder_1 (Gh := Gh) (Gi := Gi) (Gl := Hz) (Gm := Ja) (Gn := Jb) (Gp := Jc) (Gq := Jd) (Gj := Hx) (Gk := Hy) (Gt := Jg) (Gu := Jh) (Gv := Ji) (Gw := Jj) (Gx := Jk) (Gr := Je) (Gs := Jf) hx14
  refine st_call (cx_call hc15 (ent_f hc15.fn rfl) hn0 (H.sel' [0, 2, 1, 4, 3, 1, 3] rfl rfl : Hp S0 σ0 _ ([_, _, _, _, _] ++ _))) wn ?_
  rintro _ σ17 ⟨_, ⟨rfl, rfl, hn16⟩, H, -⟩
  replace H : Hp _ _ _ [_, _, _, _, _] := H
  have hsl : (Sl Gh o1.1 Gi) = (Sl Gh r13 Gi) := sl_len hn16.symm
  try rw [hsl]
  try rw [hsl] at H
  clear hsl
  refine w_end (q_then ?_)
  obtain ⟨o18, hj, h'⟩ := bind_some h
  clear h
  refine c_cut (fun e a w => e = .normal ∧ ∃ (ρ : Nat → Value) (σ : St), a = fr 63 (updL ρ [(0, (Sl Gh o18 Gi)), (2, (.func (.func 78) #[] #[(pt Ja Jb), (pt Jh Ji)]))]) ∧ w = σ.w ∧ Hp S0 σ0 σ [Ch.own 0 0 (Sl Gh o18 Gi) o18, Ch.ro 0 (Sl Hx Hv Hy) Hv, Ch.bx Hz Ja Jb [(Sl Hx Hv Hy)] Jc Jd, Ch.ro 0 (Sl Je Hw Jf) Hw, Ch.bx Jg Jh Ji [(Sl Je Hw Jf)] Jj Jk] ∧ o18.length = r13.length) ?_ ?_
  ·clear h'
   rename _ = some o18 => h
   refine c_blk (wp_loopM _ h (fun s19 a w => ∃ (ρ : Nat → Value) (σ : St), a = fr 63 (updL ρ [(0, (Sl Gh s19.1 Gi)), (1, (I Af)), (2, (.func (.func 78) #[] #[(pt Ja Jb), (pt Jh Ji)])), (6, (I s19.2))]) ∧ w = σ.w ∧ Hp S0 σ0 σ [Ch.own 0 0 (Sl Gh s19.1 Gi) s19.1, Ch.ro 0 (Sl Hx Hv Hy) Hv, Ch.bx Hz Ja Jb [(Sl Hx Hv Hy)] Jc Jd, Ch.ro 0 (Sl Je Hw Jf) Hw, Ch.bx Jg Jh Ji [(Sl Je Hw Jf)] Jj Jk] ∧ s19.1.length = r13.length) ⟨_, σ17, fr_join ⟨rfl, rfl, rfl, rfl, trivial⟩, rfl, H.sel' [0, 3, 1, 4, 2] rfl rfl, rfl⟩ ?_)
   clear h H
   rintro s19 a w o ⟨ρ, σ20, rfl, rfl, H, hn21⟩ h hres
   refine c_seq (c_seq (rg (sm (I s19.2) rfl (sm (I Af) rfl (st (v := (B (decide (s19.2 < Af)))) (rv_lss (a := s19.2) (b := Af) rfl rfl) (w_end (q_then ?_)))))))
   refine cd_cond (decide (s19.2 < Af)) rfl (fun hb22 => ?_) (fun hb22 => ?_)
   ·replace h := bif_t hb22 h
    refine c_skip (q_then (c_blk (c_seq (rg (sm (I s19.2) rfl (st (v := (I (w64 (2 * s19.2)))) (rv_mul (a := 2) (b := s19.2) rfl rfl) (sa (I 0) rfl (sa (I (w64 (2 * s19.2))) rfl (w_end (q_then (c_seq ?_)))))))))))
    obtain ⟨o23, hj, h'⟩ := bind_some h
    clear h
    refine c_cut (fun e a w => e = .normal ∧ ∃ (ρ : Nat → Value) (σ : St), a = fr 63 (updL ρ [(0, (Sl Gh o23.1 Gi)), (1, (I Af)), (2, (.func (.func 78) #[] #[(pt Ja Jb), (pt Jh Ji)])), (6, (I s19.2)), (7, (I o23.2))]) ∧ w = σ.w ∧ Hp S0 σ0 σ [Ch.own 0 0 (Sl Gh o23.1 Gi) o23.1, Ch.ro 0 (Sl Hx Hv Hy) Hv, Ch.bx Hz Ja Jb [(Sl Hx Hv Hy)] Jc Jd, Ch.ro 0 (Sl Je Hw Jf) Hw, Ch.bx Jg Jh Ji [(Sl Je Hw Jf)] Jj Jk] ∧ o23.1.length = s19.1.length) ?_ ?_
    ·clear h'
     rename _ = some o23 => h
     refine c_blk (wp_loopM _ h (fun s24 a w => ∃ (ρ : Nat → Value) (σ : St), a = fr 63 (updL ρ [(0, (Sl Gh s24.1 Gi)), (1, (I Af)), (2, (.func (.func 78) #[] #[(pt Ja Jb), (pt Jh Ji)])), (6, (I s19.2)), (7, (I s24.2.1)), (8, (I s24.2.2))]) ∧ w = σ.w ∧ Hp S0 σ0 σ [Ch.own 0 0 (Sl Gh s24.1 Gi) s24.1, Ch.ro 0 (Sl Hx Hv Hy) Hv, Ch.bx Hz Ja Jb [(Sl Hx Hv Hy)] Jc Jd, Ch.ro 0 (Sl Je Hw Jf) Hw, Ch.bx Jg Jh Ji [(Sl Je Hw Jf)] Jj Jk] ∧ s24.1.length = s19.1.length) ⟨_, σ20, fr_join ⟨rfl, rfl, rfl, rfl, rfl, rfl, trivial⟩, rfl, H.sel' [0, 1, 2, 3, 4] rfl rfl, rfl⟩ ?_)
     clear h H
     rintro s24 a w o ⟨ρ, σ25, rfl, rfl, H, hn26⟩ h hres
     refine c_seq (c_seq (rg (sm (I s24.2.2) rfl (sm (I Af) rfl (st (v := (B (decide (s24.2.2 ≤ Af)))) (rv_leq (a := s24.2.2) (b := Af) rfl rfl) (w_end (q_then ?_)))))))
     refine cd_cond (decide (s24.2.2 ≤ Af)) rfl (fun hb27 => ?_) (fun hb27 => ?_)
     ·replace h := bif_t hb27 h
      refine c_skip (q_then (c_blk (c_seq (rg (sm (Sl Gh s24.1 Gi) rfl (sm (I s24.2.1) rfl (sm (I s24.2.1) rfl (sm (I s19.2) rfl (st (v := (I (w64 (s24.2.1 + s19.2)))) (rv_add (a := s24.2.1) (b := s19.2) rfl rfl) (sm (I s24.2.2) rfl (sm (.func (.func 78) #[] #[(pt Ja Jb), (pt Jh Ji)]) rfl ?_)))))))))))
      revert h; refine br fun r28 hx29 h => ?_
      have hc30 := c_slices_symMergeCmpFunc_int__impl_ProbeOrder_1 100 (Gh := Gh) (Gi := Gi) (He := Hz) (Hf := Ja) (Hg := Jb) (Hi := Jc) (Hj := Jd) (Hc := Hx) (Hd := Hy) (Hm := Jg) (Hn := Jh) (Ho := Ji) (Hq := Jj) (Hr := Jk) (Hk := Je) (Hl := Jf) hx29
      refine st_call (cx_call hc30 (ent_f hc30.fn rfl) hn0 (H.sel' [0, 2, 1, 4, 3, 1, 3] rfl rfl : Hp S0 σ0 _ ([_, _, _, _, _] ++ _))) wn ?_
      rintro _ σ32 ⟨_, ⟨rfl, rfl, hn31⟩, H, -⟩
      replace H : Hp _ _ _ [_, _, _, _, _] := H
      have hsl : (Sl Gh s24.1 Gi) = (Sl Gh r28 Gi) := sl_len hn31.symm
      try rw [hsl]
      try rw [hsl] at H
      clear hsl
      refine w_end (q_then (c_seq (rg (sm (I s24.2.2) rfl (sa (I s24.2.2) rfl (w_end (q_then (rg (sm (I s24.2.2) rfl (sm (I s19.2) rfl (st (v := (I (w64 (2 * s19.2)))) (rv_mul (a := 2) (b := s19.2) rfl rfl) ?_)))))))))))
      refine st (v := (I (w64 (s24.2.2 + (w64 (2 * s19.2)))))) (rv_add (a := s24.2.2) (b := (w64 (2 * s19.2))) rfl rfl) (sa (I (w64 (s24.2.2 + (w64 (2 * s19.2))))) rfl (w_end (q_blk (q_then ?_))))
      obtain rfl := sj h
      exact ⟨_, rfl, _, σ32, fr_join ⟨rfl, rfl, rfl, rfl, rfl, rfl, trivial⟩, rfl, H.sel' [0, 3, 1, 4, 2] rfl rfl, ((hn31.trans (hn26.trans (hn21.trans (hn16.trans hn12)))).trans (hn21.trans (hn16.trans hn12)).symm)⟩
     ·replace h := bif_f hb27 h
      refine c_exit (q_then_x (q_then_x (q_blk_hit ?_)))
      obtain rfl := sj h
      obtain rfl := hres _ rfl
      exact ⟨rfl, _, σ25, fr_join ⟨rfl, rfl, rfl, rfl, rfl, trivial⟩, rfl, H.sel' [0, 1, 2, 3, 4] rfl rfl, ((hn26.trans (hn21.trans (hn16.trans hn12))).trans (hn21.trans (hn16.trans hn12)).symm)⟩
    ·clear hj
     have h := h'
     clear h' H
     rintro e a w ⟨rfl, ρ, σ33, rfl, rfl, H, hn34⟩
     refine q_then (c_seq (c_seq (rg (sm (I o23.2) rfl (sm (I s19.2) rfl (st (v := (I (w64 (o23.2 + s19.2)))) (rv_add (a := o23.2) (b := s19.2) rfl rfl) (sa (I (w64 (o23.2 + s19.2))) rfl (w_end (q_then (c_seq (rg ?_)))))))))))
     refine sm (I (w64 (o23.2 + s19.2))) rfl (sm (I Af) rfl (st (v := (B (decide ((w64 (o23.2 + s19.2)) < Af)))) (rv_lss (a := (w64 (o23.2 + s19.2))) (b := Af) rfl rfl) (w_end (q_then ?_))))
     obtain ⟨o35, hj, h'⟩ := bind_some h
     clear h
     refine c_cut (fun e a w => e = .normal ∧ ∃ (ρ : Nat → Value) (σ : St), a = fr 63 (updL ρ [(0, (Sl Gh o35 Gi)), (1, (I Af)), (2, (.func (.func 78) #[] #[(pt Ja Jb), (pt Jh Ji)])), (6, (I s19.2))]) ∧ w = σ.w ∧ Hp S0 σ0 σ [Ch.own 0 0 (Sl Gh o35 Gi) o35, Ch.ro 0 (Sl Hx Hv Hy) Hv, Ch.bx Hz Ja Jb [(Sl Hx Hv Hy)] Jc Jd, Ch.ro 0 (Sl Je Hw Jf) Hw, Ch.bx Jg Jh Ji [(Sl Je Hw Jf)] Jj Jk] ∧ o35.length = o23.1.length) ?_ ?_
     ·clear h'
      rename _ = some o35 => h
      refine cd_cond (decide ((w64 (o23.2 + s19.2)) < Af)) rfl (fun hb36 => ?_) (fun hb36 => ?_)
      ·replace h := bif_t hb36 h
       refine rg (sm (Sl Gh o23.1 Gi) rfl (sm (I o23.2) rfl (sm (I (w64 (o23.2 + s19.2))) rfl (sm (I Af) rfl (sm (.func (.func 78) #[] #[(pt Ja Jb), (pt Jh Ji)]) rfl ?_)))))
       revert h; refine br fun r37 hx38 h => ?_
       have hc39 := c_slices_symMergeCmpFunc_int__impl_ProbeOrder_1 100 (Gh := Gh) (Gi := Gi) (He := Hz) (Hf := Ja) (Hg := Jb) (Hi := Jc) (Hj := Jd) (Hc := Hx) (Hd := Hy) (Hm := Jg) (Hn := Jh) (Ho := Ji) (Hq := Jj) (Hr := Jk) (Hk := Je) (Hl := Jf) hx38
       refine st_call (cx_call hc39 (ent_f hc39.fn rfl) hn0 (H.sel' [0, 2, 1, 4, 3, 1, 3] rfl rfl : Hp S0 σ0 _ ([_, _, _, _, _] ++ _))) wn ?_
       rintro _ σ41 ⟨_, ⟨rfl, rfl, hn40⟩, H, -⟩
       replace H : Hp _ _ _ [_, _, _, _, _] := H
       have hsl : (Sl Gh o23.1 Gi) = (Sl Gh r37 Gi) := sl_len hn40.symm
       try rw [hsl]
       try rw [hsl] at H
       clear hsl
       refine w_end ?_
       obtain rfl := sj h
       exact ⟨rfl, _, σ41, fr_join ⟨rfl, rfl, rfl, rfl, trivial⟩, rfl, H.sel' [0, 3, 1, 4, 2] rfl rfl, ((hn40.trans (hn34.trans (hn21.trans (hn16.trans hn12)))).trans (hn34.trans (hn21.trans (hn16.trans hn12))).symm)⟩
      ·replace h := bif_f hb36 h
       refine c_skip ?_
       obtain rfl := sj h
       exact ⟨rfl, _, σ33, fr_join ⟨rfl, rfl, rfl, rfl, trivial⟩, rfl, H.sel' [0, 1, 2, 3, 4] rfl rfl, rfl⟩
     ·clear hj
      have h := h'
      clear h' H
      rintro e a w ⟨rfl, ρ, σ42, rfl, rfl, H, hn43⟩
      refine q_then (rg (sm (I s19.2) rfl (st (v := (I (w64 (s19.2 * 2)))) (rv_mul (a := s19.2) (b := 2) rfl rfl) (sa (I (w64 (s19.2 * 2))) rfl (w_end (q_blk (q_then ?_)))))))
      obtain rfl := sj h
      exact ⟨_, rfl, _, σ42, fr_join ⟨rfl, rfl, rfl, rfl, trivial⟩, rfl, H.sel' [0, 1, 2, 3, 4] rfl rfl, ((hn43.trans (hn34.trans (hn21.trans (hn16.trans hn12)))).trans (hn16.trans hn12).symm)⟩
   ·replace h := bif_f hb22 h
    refine c_exit (q_then_x (q_then_x (q_blk_hit ?_)))
    obtain rfl := sj h
    obtain rfl := hres _ rfl
    exact ⟨rfl, _, σ20, fr_join ⟨rfl, rfl, trivial⟩, rfl, H.sel' [0, 1, 2, 3, 4] rfl rfl, ((hn21.trans (hn16.trans hn12)).trans (hn16.trans hn12).symm)⟩
  ·clear hj
   have h := h'
   clear h' H
   rintro e a w ⟨rfl, ρ, σ44, rfl, rfl, H, hn45⟩
   obtain rfl := sj h
   exact fin_end (v := (.tuple #[])) (results_ok Tryz.results94 res_nil rfl) ⟨rfl, rfl, (hn45.trans (hn16.trans hn12))⟩ (H.sel' [0, 2, 4] rfl rfl)

theorem c_slices_SortStableFunc_int_int__impl_ProbeOrder_1 {Bd : List Int} {Jm : List (List Int)} {Jn : List Int} {Ed : Option Addr} {Ee : Nat} {Jo : Option Addr} {Jp : Nat} {Jq Jr Jt : Nat} {Ju Jv : List Value} {Jw : Option Addr} {Jx : Nat} {Jy Jz Ka : Nat} {Kb Kc : List Value} {r : (List Int)} (h : M.slices_SortStableFunc_int_int__impl_ProbeOrder_1 Bd Jm Jn = some r) :
    Cal2 Tryz.prog 77 [(Sl Ed Bd Ee), (.func (.func 78) #[] #[(pt Jr Jt), (pt Jz Ka)])] [Ch.own 0 0 (Sl Ed Bd Ee) Bd, Ch.bx Jq Jr Jt [(Sl Jo Jm Jp)] Ju Jv, Ch.ro 0 (Sl Jo Jm Jp) Jm, Ch.bx Jy Jz Ka [(Sl Jw Jn Jx)] Kb Kc, Ch.ro 0 (Sl Jw Jn Jx) Jn] (fun n0 v L => v = (.tuple #[]) ∧ L = [Ch.own 0 0 (Sl Ed r Ee) r, Ch.bx Jq Jr Jt [(Sl Jo Jm Jp)] Ju Jv, Ch.bx Jy Jz Ka [(Sl Jw Jn Jx)] Kb Kc] ∧ r.length = Bd.length) := by
 refine cal2 (n := 9) Tryz.func77 rfl rfl rfl rfl ?_
 intro S0 σ0 n0 hn0 H
 unfold M.slices_SortStableFunc_int_int__impl_ProbeOrder_1 at h
 refine rg (sm (Sl Ed Bd Ee) rfl (sm (Sl Ed Bd Ee) rfl (st (v := (I (Bd.length : Int))) (rv_len Tryz.underlying25 rfl) (sm (.func (.func 78) #[] #[(pt Jr Jt), (pt Jz Ka)]) rfl ?_))))
 revert h; refine br fun r1 hx2 h => ?_
 have hc3 := c_slices_stableCmpFunc_int__impl_ProbeOrder_1 (Gh := Ed) (Gi := Ee) (Hz := Jq) (Ja := Jr) (Jb := Jt) (Jc := Ju) (Jd := Jv) (Hx := Jo) (Hy := Jp) (Jg := Jy) (Jh := Jz) (Ji := Ka) (Jj := Kb) (Jk := Kc) (Je := Jw) (Jf := Jx) hx2
 refine st_call (cx_call hc3 (ent_f hc3.fn rfl) hn0 (H.sel' [0, 1, 2, 3, 4, 2, 4] rfl rfl : Hp S0 σ0 _ ([_, _, _, _, _] ++ _))) wn ?_
 rintro _ σ5 ⟨_, ⟨rfl, rfl, hn4⟩, H, -⟩
 replace H : Hp _ _ _ [_, _, _, _, _] := H
 have hsl : (Sl Ed Bd Ee) = (Sl Ed r1 Ee) := sl_len hn4.symm
 try rw [hsl]
 try rw [hsl] at H
 clear hsl
 refine w_end ?_
 obtain rfl := sj h
 exact fin_end (v := (.tuple #[])) (results_ok Tryz.results77 res_nil rfl) ⟨rfl, rfl, hn4⟩ (H.sel' [0, 1, 2] rfl rfl)

theorem c_impl_ProbeOrder {Bn : List (List Int)} {Bo : List Int} {Bp : Int} {Bq : Option Addr} {Br : Nat} {Bs : Option Addr} {Bt : Nat} {r : (List Int)} (h : M.impl_ProbeOrder Bn Bo Bp = some r) :
    Cal2 Tryz.prog 54 [(Sl Bq Bn Br), (Sl Bs Bo Bt), (I Bp)] [Ch.ro 0 (Sl Bq Bn Br) Bn, Ch.ro 0 (Sl Bs Bo Bt) Bo] (fun n0 v L => ∃ (az1 : Option Addr), ∃ (cz2 : Nat), v = (Sl az1 r cz2) ∧ L = [Ch.own 0 n0 (Sl az1 r cz2) r]) := by
 refine cal2 (n := 36) Tryz.func54 rfl rfl rfl rfl ?_
 intro S0 σ0 n0 hn0 H
 unfold M.impl_ProbeOrder at h
 refine c_seq (rg (st_ex (ex_box (cs := [(Sl Bq Bn Br)]) H hn0 rfl rfl) wn ?_))
 rintro _ σ2 ⟨b1, rfl, H, -⟩
 refine st_ex (ex_box (cs := [(Sl Bs Bo Bt)]) H hn0 rfl rfl) wn ?_
 rintro _ σ4 ⟨b3, rfl, H, -⟩
 refine sa (.slice none 0 0) rfl (w_end (q_then (c_seq (c_seq (rg ?_)))))
 have hc5 := H.cell (u := (Sl Bq Bn Br)) (o' := 0) 1 0 rfl rfl rfl
 refine st (v := (Sl Bq Bn Br)) (rv_load1 Tryz.underlying23 rfl rfl hc5) ?_
 have hc6 := H.cell (u := (Sl Bs Bo Bt)) (o' := 0) 0 0 rfl rfl rfl
 refine st (v := (Sl Bs Bo Bt)) (rv_load1 Tryz.underlying25 rfl rfl hc6) (sm (I Bp) rfl ?_)
 revert h; refine br fun r7 hx8 h => ?_
 have hc9 := c_impl_validProbe (Bq := Bq) (Br := Br) (Bs := Bs) (Bt := Bt) hx8
 refine st_call (cx_call hc9 (ent_f hc9.fn rfl) hn0 (H.sel' [2, 3, 0, 1, 2, 3] rfl rfl : Hp S0 σ0 _ ([_, _] ++ _))) wn ?_
 rintro _ σ10 ⟨_, ⟨rfl, rfl⟩, H, -⟩
 replace H : Hp _ _ _ [_, _, _, _] := H
 refine st (v := (B (!r7))) (rv_not rfl) (w_end (q_then ?_))
 refine cd_cond (!r7) rfl (fun hb11 => ?_) (fun hb11 => ?_)
 ·replace h := bif_t hb11 h
  refine c_seq (rg (sa (.slice none 0 0) rfl (w_end (q_then (c_ret (q_then_r ?_))))))
  replace H := H.nilOwn Int 0 n0
  obtain rfl := sj h
  exact fin_ret (v := (.slice none 0 0)) (results_ok Tryz.results54 (res_tmp (v := (.slice none 0 0)) rfl res_nil) rfl) ⟨none, 0, rfl, rfl⟩ (H.sel' [0] rfl rfl)
 ·replace h := bif_f hb11 h
  refine c_skip (q_then (c_seq (rg ?_)))
  have hc12 := H.cell (u := (Sl Bq Bn Br)) (o' := 0) 1 0 rfl rfl rfl
  refine st (v := (Sl Bq Bn Br)) (rv_load1 Tryz.underlying23 rfl rfl hc12) (st (v := (I (Bn.length : Int))) (rv_len Tryz.underlying23 rfl) ?_)
  revert h; refine br fun xs13 hx14 h => ?_
  refine st_ex (ex_make (el := n0) (z0 := (0 : Int)) (zs := [(I 0)]) H hn0 Tryz.underlying25 ti3 rfl rfl rfl (by decide) hx14 rfl rfl) wn ?_
  rintro _ σ18 ⟨b15, c16, rfl, ht17, H, -⟩
  replace ht17 := ht17.trans (gmake_len hx14).symm
  refine sa (Sl (some ⟨b15, 0, none⟩) xs13 c16) rfl (w_end (q_then (c_seq (c_seq (rg (sm (Sl (some ⟨b15, 0, none⟩) xs13 c16) rfl (st (v := (I (xs13.length : Int))) (rv_len Tryz.underlying25 rfl) (sm (I 0) rfl (w_end (q_then ?_))))))))))
  obtain ⟨o19, hj, h'⟩ := bind_some h
  clear h
  refine c_cut (fun e a w => e = .normal ∧ ∃ (ρ : Nat → Value) (σ : St), a = fr 36 (updL ρ [(2, (I Bp)), (3, (pt b1 0)), (4, (pt b3 0)), (7, (Sl (some ⟨b15, 0, none⟩) o19 c16))]) ∧ w = σ.w ∧ Hp S0 σ0 σ [Ch.ro 0 (Sl Bq Bn Br) Bn, Ch.bx n0 b1 0 [(Sl Bq Bn Br)] [] [], Ch.ro 0 (Sl Bs Bo Bt) Bo, Ch.bx n0 b3 0 [(Sl Bs Bo Bt)] [] [], Ch.own n0 n0 (Sl (some ⟨b15, 0, none⟩) o19 c16) o19] ∧ c16 = o19.length ∧ o19.length = xs13.length) ?_ ?_
  ·clear h'
   rename _ = some o19 => h
   refine c_blk (wp_loopM _ h (fun s20 a w => ∃ (ρ : Nat → Value) (σ : St), a = fr 36 (updL ρ [(2, (I Bp)), (3, (pt b1 0)), (4, (pt b3 0)), (7, (Sl (some ⟨b15, 0, none⟩) s20.1 c16)), (18, (I (xs13.length : Int))), (19, (I s20.2))]) ∧ w = σ.w ∧ Hp S0 σ0 σ [Ch.ro 0 (Sl Bq Bn Br) Bn, Ch.bx n0 b1 0 [(Sl Bq Bn Br)] [] [], Ch.ro 0 (Sl Bs Bo Bt) Bo, Ch.bx n0 b3 0 [(Sl Bs Bo Bt)] [] [], Ch.own n0 n0 (Sl (some ⟨b15, 0, none⟩) s20.1 c16) s20.1] ∧ c16 = s20.1.length ∧ s20.1.length = xs13.length) ⟨_, σ18, fr_join ⟨rfl, rfl, rfl, rfl, rfl, rfl, trivial⟩, rfl, H.sel' [3, 2, 4, 1, 0] rfl rfl, ht17, rfl⟩ ?_)
   clear h H
   rintro s20 a w o ⟨ρ, σ21, rfl, rfl, H, ht22, hn23⟩ h hres
   refine c_seq (rg (st (v := (B (decide (s20.2 < (xs13.length : Int))))) (rv_lss (a := s20.2) (b := (xs13.length : Int)) rfl rfl) (w_end (q_then (c_seq ?_)))))
   refine cd_cond (decide (s20.2 < (xs13.length : Int))) rfl (fun hb24 => ?_) (fun hb24 => ?_)
   ·replace h := bif_t hb24 h
    refine c_skip (q_then (c_seq (c_blk (c_seq (rg (sm (I s20.2) rfl (sa (I s20.2) rfl (w_end (q_then (rg (sm (Sl (some ⟨b15, 0, none⟩) s20.1 c16) rfl ?_)))))))))))
    refine sm (I s20.2) rfl (sm (I s20.2) rfl ?_)
    revert h; refine br fun x25 hx26 h => ?_
    obtain ⟨b28, o29, hi27, -⟩ := (H.own 4 rfl).ix hx26
    refine st (v := (pt b28 o29)) (rv_ix Tryz.underlying25 ti3 rfl rfl hi27) ?_
    refine st_exS (ex_store_own (e' := s20.2) (vs := [(I s20.2)]) (k := 0) H (i := 4) rfl ti3 hx26 hi27 rfl rfl rfl rfl rfl (Nat.le_of_ble_eq_true rfl) (by simp [plain]) (by rintro _ rfl; exact rfl)) wn ?_
    rintro σ30 ⟨H, -⟩
    have hsl : (Sl (some ⟨b15, 0, none⟩) s20.1 c16) = (Sl (some ⟨b15, 0, none⟩) (s20.1.set s20.2.toNat s20.2) c16) := sl_len List.length_set.symm
    rw [hsl]; rw [hsl] at H; clear hsl
    refine w_end (q_blk (q_then (rg (st (v := (I (w64 (s20.2 + 1)))) (rv_add (a := s20.2) (b := 1) rfl rfl) (sm (I (w64 (s20.2 + 1))) rfl (w_end (q_then ?_)))))))
    obtain rfl := sj h
    exact ⟨_, rfl, _, σ30, fr_join ⟨rfl, rfl, rfl, rfl, rfl, rfl, trivial⟩, rfl, H.sel' [1, 2, 3, 4, 0] rfl rfl, (ht22.trans List.length_set.symm), (List.length_set.trans hn23)⟩
   ·replace h := bif_f hb24 h
    refine c_exit (q_then_x (q_then_x (q_blk_hit ?_)))
    obtain rfl := sj h
    obtain rfl := hres _ rfl
    exact ⟨rfl, _, σ21, fr_join ⟨rfl, rfl, rfl, rfl, trivial⟩, rfl, H.sel' [0, 1, 2, 3, 4] rfl rfl, ht22, hn23⟩
  ·clear hj
   have h := h'
   clear h' H
   rintro e a w ⟨rfl, ρ, σ31, rfl, rfl, H, ht32, hn33⟩
   refine q_then (c_seq (rg (sm (Sl (some ⟨b15, 0, none⟩) o19 c16) rfl (st (v := (.func (.func 78) #[] #[(pt b1 0), (pt b3 0)])) (rv_makeFunc (vs := [(pt b1 0), (pt b3 0)]) rfl) ?_))))
   replace H := H.ownLow 4 0 0 rfl (Nat.zero_le _) (Nat.zero_le _)
   revert h; refine br fun r34 hx35 h => ?_
   have hc36 := c_slices_SortStableFunc_int_int__impl_ProbeOrder_1 (Ed := (some ⟨b15, 0, none⟩)) (Ee := c16) (Jq := n0) (Jr := b1) (Jt := 0) (Ju := []) (Jv := []) (Jo := Bq) (Jp := Br) (Jy := n0) (Jz := b3) (Ka := 0) (Kb := []) (Kc := []) (Jw := Bs) (Jx := Bt) hx35
   refine st_call (cx_call hc36 (ent_f hc36.fn rfl) hn0 (H.sel' [0, 2, 1, 4, 3, 1, 3] rfl rfl : Hp S0 σ0 _ ([_, _, _, _, _] ++ _))) wn ?_
   rintro _ σ38 ⟨_, ⟨rfl, rfl, hn37⟩, H, -⟩
   replace H : Hp _ _ _ [_, _, _, _, _] := H
   have hsl : (Sl (some ⟨b15, 0, none⟩) o19 c16) = (Sl (some ⟨b15, 0, none⟩) r34 c16) := sl_len hn37.symm
   try rw [hsl]
   try rw [hsl] at H
   clear hsl
   refine w_end (q_then (c_seq (rg (sm (Sl (some ⟨b15, 0, none⟩) r34 c16) rfl (sm (I Bp) rfl (sm (Sl (some ⟨b15, 0, none⟩) r34 c16) rfl (st (v := (I (r34.length : Int))) (rv_len Tryz.underlying25 rfl) (st (v := (I (min Bp (r34.length : Int)))) (rv_min rfl rfl) ?_))))))))
   revert h; refine br fun xs39 hx40 h => ?_
   obtain ⟨a41, c42, hs43, hR44, hb45⟩ := (H.own 0 rfl).slice hx40
   replace H := (H.front (i := 0) rfl).turn (d := Ch.own 0 0 (Sl a41 xs39 c42) xs39) (fun _ => hR44) hb45; clear hR44 hb45
   refine st (v := (Sl a41 xs39 c42)) (rv_slice_h Tryz.underlying25 ti3 hs43 rfl rfl) (sa (Sl a41 xs39 c42) rfl (w_end (q_then (c_ret ?_))))
   replace H := H.ownSc 0 0 n0 rfl (Nat.le_refl _)
   obtain rfl := sj h
   exact fin_ret (v := (Sl a41 xs39 c42)) (results_ok Tryz.results54 (res_tmp (v := (Sl a41 xs39 c42)) rfl res_nil) rfl) ⟨a41, c42, rfl, rfl⟩ (H.sel' [0] rfl rfl)

theorem c_impl_probedItems {Bn : List (List Int)} {Ap : List (Int × (List Int) × Int)} {Ca : List Int} {Kd : Int} {Bq : Option Addr} {Br : Nat} {Aq : Option Addr} {Ar : Nat} {Cc : Option Addr} {Cd : Nat} {r : (List (Int × (List Int) × Int))} (h : M.impl_probedItems Bn Ap Ca Kd = some r) :
    Cal2 Tryz.prog 24 [(Sl Bq Bn Br), (Sl Aq Ap Ar), (Sl Cc Ca Cd), (I Kd)] [Ch.ro 0 (Sl Bq Bn Br) Bn, Ch.ro 0 (Sl Aq Ap Ar) Ap, Ch.ro 0 (Sl Cc Ca Cd) Ca] (fun n0 v L => ∃ (az1 : Option Addr), ∃ (cz2 : Nat), v = (Sl az1 r cz2) ∧ L = [Ch.own n0 0 (Sl az1 r cz2) r]) := by
 refine cal2 (n := 32) Tryz.func24 rfl rfl rfl rfl ?_
 intro S0 σ0 n0 hn0 H
 unfold M.impl_probedItems at h
 refine c_seq (rg (sa (.slice none 0 0) rfl (w_end (q_then (c_seq (rg (sm (Sl Bq Bn Br) rfl (sm (Sl Aq Ap Ar) rfl ?_))))))))
 revert h; refine br fun r1 hx2 h => ?_
 have hc3 := c_impl_itemsByCentre (Bq := Bq) (Br := Br) (Aq := Aq) (Ar := Ar) hx2
 refine st_call (cx_call hc3 (ent_f hc3.fn rfl) hn0 (H.sel' [0, 1, 0, 1, 2] rfl rfl : Hp S0 σ0 _ ([_, _] ++ _))) wn ?_
 rintro _ σ7 ⟨_, ⟨b4, K5, rfl, rfl, hK6⟩, H, -⟩
 replace H : Hp _ _ _ [_, _, _, _] := H
 refine sa (.map (some b4)) rfl (w_end (q_then (c_seq (rg (sa (.slice none 0 0) rfl (w_end (q_then (c_seq (c_seq (rg (sm (Sl Bq Bn Br) rfl ?_)))))))))))
 refine sm (Sl Cc Ca Cd) rfl (sm (I Kd) rfl ?_)
 revert h; refine br fun r8 hx9 h => ?_
 have hc10 := c_impl_ProbeOrder (Bq := Bq) (Br := Br) (Bs := Cc) (Bt := Cd) hx9
 refine st_call (cx_call hc10 (ent_f hc10.fn rfl) hn0 (H.sel' [1, 3, 0, 1, 2, 3] rfl rfl : Hp S0 σ0 _ ([_, _] ++ _))) wn ?_
 rintro _ σ13 ⟨_, ⟨a11, c12, rfl, rfl⟩, H, -⟩
 replace H : Hp _ _ _ [_, _, _, _, _] := H
 refine st (v := (I (r8.length : Int))) (rv_len Tryz.underlying25 rfl) (sm (I 0) rfl (w_end (q_then ?_)))
 obtain ⟨o14, hj, h'⟩ := bind_some h
 clear h
 refine c_cut (fun e a w => e = .normal ∧ ∃ (ρ : Nat → Value) (σ : St) (aj1 : Option Addr) (cj2 : Nat), a = fr 32 (updL ρ [(10, (Sl aj1 o14 cj2))]) ∧ w = σ.w ∧ Hp S0 σ0 σ [Ch.own n0 0 (Sl aj1 o14 cj2) o14]) ?_ ?_
 ·clear h'
  rename _ = some o14 => h
  refine c_blk ?_
  obtain ⟨σ16, hw17, H, -⟩ := H.mpPub 1 rfl hK6
  rw [← hw17]; clear hw17
  replace H := H.nilOwn (Int × (List Int) × Int) n0 0
  refine wp_loopM _ h (fun s15 a w => ∃ (ρ : Nat → Value) (σ : St) (aj1 : Option Addr) (cj2 : Nat), a = fr 32 (updL ρ [(9, (.map (some b4))), (10, (Sl aj1 s15.1 cj2)), (19, (Sl a11 r8 c12)), (20, (I (r8.length : Int))), (21, (I s15.2))]) ∧ w = σ.w ∧ Hp S0 σ0 σ [Ch.mr b4 r1, Ch.own n0 0 (Sl aj1 s15.1 cj2) s15.1, Ch.own 0 n0 (Sl a11 r8 c12) r8]) ⟨_, σ16, none, 0, fr_join ⟨rfl, rfl, rfl, rfl, rfl, trivial⟩, rfl, H.sel' [1, 0, 2] rfl rfl⟩ ?_
  clear h H
  rintro s15 a w o ⟨ρ, σ18, a19, c20, rfl, rfl, H⟩ h hres
  refine c_seq (rg (st (v := (B (decide (s15.2 < (r8.length : Int))))) (rv_lss (a := s15.2) (b := (r8.length : Int)) rfl rfl) (w_end (q_then (c_seq ?_)))))
  refine cd_cond (decide (s15.2 < (r8.length : Int))) rfl (fun hb21 => ?_) (fun hb21 => ?_)
  ·replace h := bif_t hb21 h
   refine c_skip (q_then (c_seq (c_blk (c_seq (rg ?_)))))
   revert h; refine br fun x22 hx23 h => ?_
   obtain ⟨b25, o26, hi24, -⟩ := (H.own 2 rfl).ix hx23
   refine st (v := (pt b25 o26)) (rv_ix Tryz.underlying25 ti3 rfl rfl hi24) ?_
   have hc27 := ((H.own 2 rfl).at hx23 hi24).int
   refine st (v := (I x22)) (rv_load1 Tryz.underlying3 rfl rfl hc27) (sa (I x22) rfl (w_end (q_then (rg (sm (Sl a19 s15.1 c20) rfl (sm (.map (some b4)) rfl (sm (I x22) rfl ?_)))))))
   obtain ⟨v31, hL30, hR32⟩ := mrGet (H.mr 0 rfl) x22
   obtain ⟨a28, c29, rfl⟩ := hR32.isSl
   replace H := H.add (d := Ch.ro 0 (Sl a28 (mget r1 x22) c29) (mget r1 x22)) hR32 (fun _ h => h)
   clear hR32
   refine st (v := (Sl a28 (mget r1 x22) c29)) (rv_lookup Tryz.underlying77 Tryz.underlying3 ti24 rfl rfl hL30) ?_
   revert h; refine br fun xs33 hx34 h => ?_
   refine st_ex (ex_append H (i := 2) rfl Tryz.underlying24 Tryz.underlying24 ti41 rfl rfl (by decide) (H.ro 0 rfl).rd hx34 hn0 rfl rfl) wn ?_
   rintro _ σ37 ⟨a35, c36, rfl, H, -⟩
   refine sa (Sl a35 xs33 c36) rfl (w_end (q_blk (q_then (rg (st (v := (I (w64 (s15.2 + 1)))) (rv_add (a := s15.2) (b := 1) rfl rfl) (sm (I (w64 (s15.2 + 1))) rfl (w_end (q_then ?_))))))))
   obtain rfl := sj h
   exact ⟨_, rfl, _, σ37, a35, c36, fr_join ⟨rfl, rfl, rfl, rfl, rfl, trivial⟩, rfl, H.sel' [2, 0, 3] rfl rfl⟩
  ·replace h := bif_f hb21 h
   refine c_exit (q_then_x (q_then_x (q_blk_hit ?_)))
   obtain rfl := sj h
   obtain rfl := hres _ rfl
   exact ⟨rfl, _, σ18, a19, c20, fr_join ⟨rfl, trivial⟩, rfl, H.sel' [1] rfl rfl⟩
 ·clear hj
  have h := h'
  clear h' H
  rintro e a w ⟨rfl, ρ, σ38, a39, c40, rfl, rfl, H⟩
  refine q_then (c_seq (rg (sm (Sl a39 o14 c40) rfl (sa (Sl a39 o14 c40) rfl (w_end (q_then (c_ret ?_)))))))
  obtain rfl := sj h
  exact fin_ret (v := (Sl a39 o14 c40)) (results_ok Tryz.results24 (res_tmp (v := (Sl a39 o14 c40)) rfl res_nil) rfl) ⟨a39, c40, rfl, rfl⟩ (H.sel' [0] rfl rfl)

theorem c_impl_ProbeNearest {Bn : List (List Int)} {Ap : List (Int × (List Int) × Int)} {Ca : List Int} {Kd : Int} {Ke : Int} {Bq : Option Addr} {Br : Nat} {Aq : Option Addr} {Ar : Nat} {Cc : Option Addr} {Cd : Nat} {r : (List (Int × Int))} (h : M.impl_ProbeNearest Bn Ap Ca Kd Ke = some r) :
    Cal2 Tryz.prog 7 [(Sl Bq Bn Br), (Sl Aq Ap Ar), (Sl Cc Ca Cd), (I Kd), (I Ke)] [Ch.ro 0 (Sl Bq Bn Br) Bn, Ch.ro 0 (Sl Aq Ap Ar) Ap, Ch.ro 0 (Sl Cc Ca Cd) Ca] (fun n0 v L => ∃ (az1 : Option Addr), ∃ (cz2 : Nat), v = (Sl az1 r cz2) ∧ L = [Ch.own 0 n0 (Sl az1 r cz2) r]) := by
 refine cal2 (n := 31) Tryz.func7 rfl rfl rfl rfl ?_
 intro S0 σ0 n0 hn0 H
 unfold M.impl_ProbeNearest at h
 refine c_seq (rg (sa (.slice none 0 0) rfl (w_end (q_then (c_seq (c_seq ?_))))))
 obtain ⟨o1, hj, h'⟩ := bind_some h
 clear h
 refine c_cut (fun e a w => e = .normal ∧ ∃ (ρ : Nat → Value) (σ : St), a = fr 31 (updL ρ [(0, (Sl Bq Bn Br)), (1, (Sl Aq Ap Ar)), (2, (Sl Cc Ca Cd)), (3, (I Kd)), (4, (I Ke)), (22, (B o1))]) ∧ w = σ.w ∧ Hp S0 σ0 σ [Ch.ro 0 (Sl Bq Bn Br) Bn, Ch.ro 0 (Sl Aq Ap Ar) Ap, Ch.ro 0 (Sl Cc Ca Cd) Ca]) ?_ ?_
 ·clear h'
  rename _ = some o1 => h
  refine rg (sm (Sl Bq Bn Br) rfl (sm (Sl Cc Ca Cd) rfl (sm (I Kd) rfl ?_)))
  revert h; refine br fun r2 hx3 h => ?_
  have hc4 := c_impl_validProbe (Bq := Bq) (Br := Br) (Bs := Cc) (Bt := Cd) hx3
  refine st_call (cx_call hc4 (ent_f hc4.fn rfl) hn0 (H.sel' [0, 2, 0, 1, 2] rfl rfl : Hp S0 σ0 _ ([_, _] ++ _))) wn ?_
  rintro _ σ5 ⟨_, ⟨rfl, rfl⟩, H, -⟩
  replace H : Hp _ _ _ [_, _, _] := H
  refine st (v := (B (!r2))) (rv_not rfl) (sm (B (!r2)) rfl ?_)
  rcases Bool.eq_false_or_eq_true (!r2) with hb6 | hb6
  ·replace h := bif_t hb6 h
   refine st_skip (congrArg some hb6) (st_skip (congrArg some hb6) (st_skip (congrArg some hb6) (st_skip (congrArg some hb6) (st_skip (congrArg some hb6) (st (v := (B true)) (rv_pick_t (congrArg B hb6) rfl) (w_end ?_))))))
   obtain rfl := sj h
   exact ⟨rfl, _, σ5, fr_join ⟨rfl, rfl, rfl, rfl, rfl, rfl, trivial⟩, rfl, H.sel' [0, 1, 2] rfl rfl⟩
  ·replace h := bif_f hb6 h
   refine st_g (v := (Sl Aq Ap Ar)) (congrArg some hb6) (rv_move rfl) (st_g (v := (Sl Cc Ca Cd)) (congrArg some hb6) (rv_move rfl) (st_g (v := (I Ke)) (congrArg some hb6) (rv_move rfl) ?_))
   revert h; refine br fun r7 hx8 h => ?_
   have hc9 := c_impl_validSearch (Au := Aq) (Av := Ar) (Cc := Cc) (Cd := Cd) hx8
   refine st_call (cx_call hc9 (ent_f hc9.fn rfl) hn0 (H.sel' [1, 2, 0, 1, 2] rfl rfl : Hp S0 σ0 _ ([_, _] ++ _))) (wanted_yes rfl (by exact (congrArg some hb6))) ?_
   rintro _ σ10 ⟨_, ⟨rfl, rfl⟩, H, -⟩
   replace H : Hp _ _ _ [_, _, _] := H
   refine st_g (v := (B (!r7))) (congrArg some hb6) (rv_not rfl) (st (v := (B (!r7))) (rv_pick_f (congrArg B hb6) rfl) (w_end ?_))
   obtain rfl := sj h
   exact ⟨rfl, _, σ10, fr_join ⟨rfl, rfl, rfl, rfl, rfl, rfl, trivial⟩, rfl, H.sel' [0, 1, 2] rfl rfl⟩
 ·clear hj
  have h := h'
  clear h' H
  rintro e a w ⟨rfl, ρ, σ11, rfl, rfl, H⟩
  refine q_then ?_
  refine cd_cond o1 rfl (fun hb12 => ?_) (fun hb12 => ?_)
  ·replace h := bif_t hb12 h
   refine c_seq (rg (sa (.slice none 0 0) rfl (w_end (q_then (c_ret (q_then_r ?_))))))
   replace H := H.nilOwn (Int × Int) 0 n0
   obtain rfl := sj h
   exact fin_ret (v := (.slice none 0 0)) (results_ok Tryz.results7 (res_tmp (v := (.slice none 0 0)) rfl res_nil) rfl) ⟨none, 0, rfl, rfl⟩ (H.sel' [0] rfl rfl)
  ·replace h := bif_f hb12 h
   refine c_skip (q_then (c_seq (rg (sm (Sl Bq Bn Br) rfl (sm (Sl Aq Ap Ar) rfl (sm (Sl Cc Ca Cd) rfl (sm (I Kd) rfl ?_)))))))
   revert h; refine br fun r13 hx14 h => ?_
   have hc15 := c_impl_probedItems (Bq := Bq) (Br := Br) (Aq := Aq) (Ar := Ar) (Cc := Cc) (Cd := Cd) hx14
   refine st_call (cx_call hc15 (ent_f hc15.fn rfl) hn0 (H.sel' [0, 1, 2, 0, 1, 2] rfl rfl : Hp S0 σ0 _ ([_, _, _] ++ _))) wn ?_
   rintro _ σ18 ⟨_, ⟨a16, c17, rfl, rfl⟩, H, -⟩
   replace H : Hp _ _ _ [_, _, _, _] := H
   refine sm (Sl Cc Ca Cd) rfl (sm (I Ke) rfl ?_)
   obtain ⟨σ19, hw20, H, -⟩ := H.pub 0 rfl (Nat.zero_le _)
   rw [← hw20]; clear hw20
   revert h; refine br fun r21 hx22 h => ?_
   have hc23 := c_impl_nearestAmong (Au := a16) (Av := c17) (Cc := Cc) (Cd := Cd) hx22
   refine st_call (cx_call hc23 (ent_f hc23.fn rfl) hn0 (H.sel' [0, 3, 0, 1, 2, 3] rfl rfl : Hp S0 σ0 _ ([_, _] ++ _))) wn ?_
   rintro _ σ26 ⟨_, ⟨a24, c25, rfl, rfl⟩, H, -⟩
   replace H : Hp _ _ _ [_, _, _, _, _] := H
   refine sa (Sl a24 r21 c25) rfl (w_end (q_then (c_ret ?_)))
   obtain rfl := sj h
   exact fin_ret (v := (Sl a24 r21 c25)) (results_ok Tryz.results7 (res_tmp (v := (Sl a24 r21 c25)) rfl res_nil) rfl) ⟨a24, c25, rfl, rfl⟩ (H.sel' [0] rfl rfl)

theorem c_laws_equalHits {Cs : List (Int × Int)} {Ct : List (Int × Int)} {Kf : Option Addr} {Kg : Nat} {Kh : Option Addr} {Ki : Nat} {r : Bool} (h : M.laws_equalHits Cs Ct = some r) :
    Cal2 Tryz.prog 8 [(Sl Kf Cs Kg), (Sl Kh Ct Ki)] [Ch.ro 0 (Sl Kf Cs Kg) Cs, Ch.ro 0 (Sl Kh Ct Ki) Ct] (fun n0 v L => v = (B r) ∧ L = []) := by
 refine cal2 (n := 26) Tryz.func8 rfl rfl rfl rfl ?_
 intro S0 σ0 n0 hn0 H
 unfold M.laws_equalHits at h
 refine c_seq (rg (sa (B false) rfl (w_end (q_then (c_seq (c_seq (rg (sm (Sl Kf Cs Kg) rfl (st (v := (I (Cs.length : Int))) (rv_len Tryz.underlying28 rfl) (sm (Sl Kh Ct Ki) rfl (st (v := (I (Ct.length : Int))) (rv_len Tryz.underlying28 rfl) ?_)))))))))))
 refine st (v := (B ((Cs.length : Int) != (Ct.length : Int)))) (rv_neq (a := (Cs.length : Int)) (b := (Ct.length : Int)) rfl rfl) (w_end (q_then ?_))
 refine cd_cond ((Cs.length : Int) != (Ct.length : Int)) rfl (fun hb1 => ?_) (fun hb1 => ?_)
 ·replace h := bif_t hb1 h
  refine c_seq (rg (sa (B false) rfl (w_end (q_then (c_ret (q_then_r ?_))))))
  obtain rfl := sj h
  exact fin_ret (v := (B false)) (results_ok Tryz.results8 (res_tmp (v := (B false)) rfl res_nil) rfl) ⟨rfl, rfl⟩ (H.sel' [] rfl rfl)
 ·replace h := bif_f hb1 h
  refine c_skip (q_then (c_seq (c_seq (rg (sa (I 0) rfl (w_end (q_then ?_)))))))
  obtain ⟨o2, hj, h'⟩ := bind_some h
  clear h
  refine c_cut (fun e a w => (∃ t, o2 = (.inl t) ∧ e = .normal ∧ ∃ (ρ : Nat → Value) (σ : St), a = fr 26 (updL ρ []) ∧ w = σ.w ∧ Hp S0 σ0 σ []) ∨ (∃ t, o2 = (.inr t) ∧ e = .ret ∧ ∃ (ρ : Nat → Value) (σ : St), a = fr 26 (updL ρ [(4, (B t))]) ∧ w = σ.w ∧ Hp S0 σ0 σ [])) ?_ ?_
  ·clear h'
   rename _ = some o2 => h
   refine c_blk (wp_loopM _ h (fun s3 a w => ∃ (ρ : Nat → Value) (σ : St), a = fr 26 (updL ρ [(0, (Sl Kf Cs Kg)), (1, (Sl Kh Ct Ki)), (5, (I s3))]) ∧ w = σ.w ∧ Hp S0 σ0 σ [Ch.ro 0 (Sl Kf Cs Kg) Cs, Ch.ro 0 (Sl Kh Ct Ki) Ct]) ⟨_, σ0, fr_join ⟨rfl, rfl, rfl, trivial⟩, rfl, H.sel' [0, 1] rfl rfl⟩ ?_)
   clear h H
   rintro s3 a w o ⟨ρ, σ4, rfl, rfl, H⟩ h hres
   refine c_seq (c_seq (rg (sm (I s3) rfl (sm (Sl Kf Cs Kg) rfl (st (v := (I (Cs.length : Int))) (rv_len Tryz.underlying28 rfl) (st (v := (B (decide (s3 < (Cs.length : Int))))) (rv_lss (a := s3) (b := (Cs.length : Int)) rfl rfl) (w_end (q_then ?_))))))))
   refine cd_cond (decide (s3 < (Cs.length : Int))) rfl (fun hb5 => ?_) (fun hb5 => ?_)
   ·replace h := bif_t hb5 h
    refine c_skip (q_then (c_seq (c_blk (c_seq ?_))))
    refine rgP (σ := σ4) 8 (by kernel_rfl) (by kernel_rfl) (by kernel_rfl) ?_
    refine sq (v := (Sl Kf Cs Kg)) (rv_move rfl) (sq (v := (I s3)) (rv_move rfl) ?_)
    revert h; refine br fun x6 hx7 h => ?_
    obtain ⟨b9, o10, hi8, -⟩ := (H.ro 0 rfl).ix hx7
    refine sq (v := (pt b9 o10)) (rv_ix Tryz.underlying28 ti35 rfl rfl hi8) ?_
    obtain ⟨_, ⟨_, _, rfl, rfl, rfl⟩, hl11, hc12⟩ := ((H.ro 0 rfl).at hx7 hi8).cells
    refine sq (v := (.agg #[(I x6.1), (I x6.2)])) (rv_load Tryz.underlying35 rfl ti35 rfl hl11 hc12) (sq (v := (Sl Kh Ct Ki)) (rv_move rfl) (sq (v := (I s3)) (rv_move rfl) ?_))
    revert h; refine br fun x13 hx14 h => ?_
    obtain ⟨b16, o17, hi15, -⟩ := (H.ro 1 rfl).ix hx14
    refine sq (v := (pt b16 o17)) (rv_ix Tryz.underlying28 ti35 rfl rfl hi15) ?_
    obtain ⟨_, ⟨_, _, rfl, rfl, rfl⟩, hl18, hc19⟩ := ((H.ro 1 rfl).at hx14 hi15).cells
    refine sq (v := (.agg #[(I x13.1), (I x13.2)])) (rv_load Tryz.underlying35 rfl ti35 rfl hl18 hc19) (sq_end ?_)
    intro σ20 hm21
    replace H := H.grow (hm21.mono fun _ h => h); clear hm21
    refine st (v := (B (!(([x6.1, x6.2] : List Int) == ([x13.1, x13.2] : List Int))))) (rv_neqI (xs := ([x6.1, x6.2] : List Int)) (ys := ([x13.1, x13.2] : List Int)) (by kernel_rfl) (by kernel_rfl) (by kernel_rfl) rfl (by kernel_rfl) (by exact intfs35) rfl rfl) ?_
    refine w_end (q_then ?_)
    refine cd_cond (!(([x6.1, x6.2] : List Int) == ([x13.1, x13.2] : List Int))) rfl (fun hb22 => ?_) (fun hb22 => ?_)
    ·replace h := bif_t hb22 h
     refine c_seq (rg (sa (B false) rfl (w_end (q_then (c_ret (q_blk_r (q_then_r (q_then_r (q_blk_r ?_)))))))))
     obtain rfl := sj h
     obtain rfl := hres _ rfl
     exact .inr (⟨_, rfl, rfl, _, σ20, fr_join ⟨rfl, trivial⟩, rfl, H.sel' [] rfl rfl⟩)
    ·replace h := bif_f hb22 h
     refine c_skip (q_blk (q_then (rg (sm (I s3) rfl (st (v := (I (w64 (s3 + 1)))) (rv_add (a := s3) (b := 1) rfl rfl) (sa (I (w64 (s3 + 1))) rfl (w_end (q_then ?_))))))))
     obtain rfl := sj h
     exact ⟨_, rfl, _, σ20, fr_join ⟨rfl, rfl, rfl, trivial⟩, rfl, H.sel' [0, 1] rfl rfl⟩
   ·replace h := bif_f hb5 h
    refine c_exit (q_then_x (q_then_x (q_blk_hit ?_)))
    obtain rfl := sj h
    obtain rfl := hres _ rfl
    exact .inl ⟨_, rfl, rfl, _, σ4, fr_join trivial, rfl, H.sel' [] rfl rfl⟩
  ·clear hj
   have h := h'
   clear h' H
   rintro e a w (⟨t23, rfl, rfl, ρ, σ24, rfl, rfl, H⟩ | ⟨t25, rfl, rfl, ρ, σ26, rfl, rfl, H⟩)
   ·replace h := selim_l h
    refine q_then (c_seq (rg (sa (B true) rfl (w_end (q_then (c_ret ?_))))))
    obtain rfl := sj h
    exact fin_ret (v := (B true)) (results_ok Tryz.results8 (res_tmp (v := (B true)) rfl res_nil) rfl) ⟨rfl, rfl⟩ (H.sel' [] rfl rfl)
   ·replace h := selim_r h
    refine q_then_r ?_
    obtain rfl := sj h
    exact fin_ret (v := (B t25)) (results_ok Tryz.results8 (res_tmp (v := (B t25)) rfl res_nil) rfl) ⟨rfl, rfl⟩ (H.sel' [] rfl rfl)

theorem c_spec_validCentres {As : List (List Int)} {Au : Option Addr} {Av : Nat} {r : Bool} (h : M.spec_validCentres As = some r) :
    Cal2 Tryz.prog 25 [(Sl Au As Av)] [Ch.ro 0 (Sl Au As Av) As] (fun n0 v L => v = (B r) ∧ L = []) := by
 refine cal2 (n := 19) Tryz.func25 rfl rfl rfl rfl ?_
 intro S0 σ0 n0 hn0 H
 unfold M.spec_validCentres at h
 refine c_seq (rg (sa (B false) rfl (w_end (q_then (c_seq (c_seq (rg (sa (I 0) rfl (w_end (q_then ?_))))))))))
 obtain ⟨o1, hj, h'⟩ := bind_some h
 clear h
 refine c_cut (fun e a w => (∃ t, o1 = (.inl t) ∧ e = .normal ∧ ∃ (ρ : Nat → Value) (σ : St), a = fr 19 (updL ρ [(0, (Sl Au As Av))]) ∧ w = σ.w ∧ Hp S0 σ0 σ [Ch.ro 0 (Sl Au As Av) As]) ∨ (∃ t, o1 = (.inr t) ∧ e = .ret ∧ ∃ (ρ : Nat → Value) (σ : St), a = fr 19 (updL ρ [(2, (B t))]) ∧ w = σ.w ∧ Hp S0 σ0 σ [])) ?_ ?_
 ·clear h'
  rename _ = some o1 => h
  refine c_blk (wp_loopM _ h (fun s2 a w => ∃ (ρ : Nat → Value) (σ : St), a = fr 19 (updL ρ [(0, (Sl Au As Av)), (3, (I s2))]) ∧ w = σ.w ∧ Hp S0 σ0 σ [Ch.ro 0 (Sl Au As Av) As]) ⟨_, σ0, fr_join ⟨rfl, rfl, trivial⟩, rfl, H.sel' [0] rfl rfl⟩ ?_)
  clear h H
  rintro s2 a w o ⟨ρ, σ3, rfl, rfl, H⟩ h hres
  refine c_seq (c_seq (rg (sm (I s2) rfl (sm (Sl Au As Av) rfl (st (v := (I (As.length : Int))) (rv_len Tryz.underlying23 rfl) (st (v := (B (decide (s2 < (As.length : Int))))) (rv_lss (a := s2) (b := (As.length : Int)) rfl rfl) (w_end (q_then ?_))))))))
  refine cd_cond (decide (s2 < (As.length : Int))) rfl (fun hb4 => ?_) (fun hb4 => ?_)
  ·replace h := bif_t hb4 h
   refine c_skip (q_then (c_seq (c_blk (c_seq (rg (sm (Sl Au As Av) rfl (sm (I s2) rfl ?_)))))))
   revert h; refine br fun x5 hx6 h => ?_
   obtain ⟨b8, o9, hi7, -⟩ := (H.ro 0 rfl).ix hx6
   refine st (v := (pt b8 o9)) (rv_ix Tryz.underlying23 ti25 rfl rfl hi7) ?_
   obtain ⟨v13, hc14, hR12⟩ := ((H.ro 0 rfl).at hx6 hi7).slice
   obtain ⟨a10, c11, rfl⟩ := hR12.isSl
   replace H := H.add (d := Ch.ro 0 (Sl a10 x5 c11) x5) hR12 (fun _ h => h)
   clear hR12
   refine st (v := (Sl a10 x5 c11)) (rv_load1 Tryz.underlying25 rfl rfl hc14) ?_
   revert h; refine br fun r15 hx16 h => ?_
   have hc17 := c_spec_isVector (Bb := a10) (Bc := c11) hx16
   refine st_call (cx_call hc17 (ent_f hc17.fn rfl) hn0 (H.sel' [0, 0, 1] rfl rfl : Hp S0 σ0 _ ([_] ++ _))) wn ?_
   rintro _ σ18 ⟨_, ⟨rfl, rfl⟩, H, -⟩
   replace H : Hp _ _ _ [_, _] := H
   refine st (v := (B (!r15))) (rv_not rfl) (w_end (q_then ?_))
   refine cd_cond (!r15) rfl (fun hb19 => ?_) (fun hb19 => ?_)
   ·replace h := bif_t hb19 h
    refine c_seq (rg (sa (B false) rfl (w_end (q_then (c_ret (q_blk_r (q_then_r (q_then_r (q_blk_r ?_)))))))))
    obtain rfl := sj h
    obtain rfl := hres _ rfl
    exact .inr (⟨_, rfl, rfl, _, σ18, fr_join ⟨rfl, trivial⟩, rfl, H.sel' [] rfl rfl⟩)
   ·replace h := bif_f hb19 h
    refine c_skip (q_blk (q_then (rg (sm (I s2) rfl (st (v := (I (w64 (s2 + 1)))) (rv_add (a := s2) (b := 1) rfl rfl) (sa (I (w64 (s2 + 1))) rfl (w_end (q_then ?_))))))))
    obtain rfl := sj h
    exact ⟨_, rfl, _, σ18, fr_join ⟨rfl, rfl, trivial⟩, rfl, H.sel' [1] rfl rfl⟩
  ·replace h := bif_f hb4 h
   refine c_exit (q_then_x (q_then_x (q_blk_hit ?_)))
   obtain rfl := sj h
   obtain rfl := hres _ rfl
   exact .inl ⟨_, rfl, rfl, _, σ3, fr_join ⟨rfl, trivial⟩, rfl, H.sel' [0] rfl rfl⟩
 ·clear hj
  have h := h'
  clear h' H
  rintro e a w (⟨t20, rfl, rfl, ρ, σ21, rfl, rfl, H⟩ | ⟨t26, rfl, rfl, ρ, σ27, rfl, rfl, H⟩)
  ·replace h := selim_l h
   refine q_then (c_seq (rg (sm (Sl Au As Av) rfl (st (v := (I (As.length : Int))) (rv_len Tryz.underlying23 rfl) ?_))))
   revert h; refine br fun r22 hx23 h => ?_
   have hc24 := c_spec_inRange hx23
   refine st_call (cx_call hc24 (ent_f hc24.fn rfl) hn0 (H.sel' [0] rfl rfl : Hp S0 σ0 _ ([] ++ _))) wn ?_
   rintro _ σ25 ⟨_, ⟨rfl, rfl⟩, H, -⟩
   replace H : Hp _ _ _ [_] := H
   refine sa (B r22) rfl (w_end (q_then (c_ret ?_)))
   obtain rfl := sj h
   exact fin_ret (v := (B r22)) (results_ok Tryz.results25 (res_tmp (v := (B r22)) rfl res_nil) rfl) ⟨rfl, rfl⟩ (H.sel' [] rfl rfl)
  ·replace h := selim_r h
   refine q_then_r ?_
   obtain rfl := sj h
   exact fin_ret (v := (B t26)) (results_ok Tryz.results25 (res_tmp (v := (B t26)) rfl res_nil) rfl) ⟨rfl, rfl⟩ (H.sel' [] rfl rfl)

theorem c_spec_validKind {Bw : Int}  {r : Bool} (h : M.spec_validKind Bw = some r) :
    Cal2 Tryz.prog 57 [(I Bw)] [] (fun n0 v L => v = (B r) ∧ L = []) := by
 refine cal2 (n := 5) Tryz.func57 rfl rfl rfl rfl ?_
 intro S0 σ0 n0 hn0 H
 unfold M.spec_validKind at h
 refine c_seq (rg (sa (B false) rfl (w_end (q_then (c_seq (rg (sm (I Bw) rfl ?_)))))))
 revert h; refine br fun r1 hx2 h => ?_
 have hc3 := c_spec_inRange hx2
 refine st_call (cx_call hc3 (ent_f hc3.fn rfl) hn0 (H.sel' [] rfl rfl : Hp S0 σ0 _ ([] ++ _))) wn ?_
 rintro _ σ4 ⟨_, ⟨rfl, rfl⟩, H, -⟩
 replace H : Hp _ _ _ [] := H
 refine sa (B r1) rfl (w_end (q_then (c_ret ?_)))
 obtain rfl := sj h
 exact fin_ret (v := (B r1)) (results_ok Tryz.results57 (res_tmp (v := (B r1)) rfl res_nil) rfl) ⟨rfl, rfl⟩ (H.sel' [] rfl rfl)

theorem c_spec_validQuery {As : List (Int × (List Int) × Int)} {Bz : Int} {Ca : List Int} {Au : Option Addr} {Av : Nat} {Cc : Option Addr} {Cd : Nat} {r : Bool} (h : M.spec_validQuery As Bz Ca = some r) :
    Cal2 Tryz.prog 26 [(Sl Au As Av), (I Bz), (Sl Cc Ca Cd)] [Ch.ro 0 (Sl Au As Av) As, Ch.ro 0 (Sl Cc Ca Cd) Ca] (fun n0 v L => v = (B r) ∧ L = []) := by
 refine cal2 (n := 17) Tryz.func26 rfl rfl rfl rfl ?_
 intro S0 σ0 n0 hn0 H
 unfold M.spec_validQuery at h
 refine c_seq (rg (sa (B false) rfl (w_end (q_then (c_seq (rg (sm (Sl Au As Av) rfl ?_)))))))
 revert h; refine br fun r1 hx2 h => ?_
 have hc3 := c_spec_validStore (Au := Au) (Av := Av) hx2
 refine st_call (cx_call hc3 (ent_f hc3.fn rfl) hn0 (H.sel' [0, 0, 1] rfl rfl : Hp S0 σ0 _ ([_] ++ _))) wn ?_
 rintro _ σ4 ⟨_, ⟨rfl, rfl⟩, H, -⟩
 replace H : Hp _ _ _ [_, _] := H
 refine sm (B r1) rfl ?_
 rcases Bool.eq_false_or_eq_true r1 with hb5 | hb5
 ·replace h := bif_t hb5 h
  refine st_g (v := (I Bz)) (congrArg some hb5) (rv_move rfl) ?_
  revert h; refine br fun r6 hx7 h => ?_
  have hc8 := c_spec_validKind hx7
  refine st_call (cx_call hc8 (ent_f hc8.fn rfl) hn0 (H.sel' [0, 1] rfl rfl : Hp S0 σ0 _ ([] ++ _))) (wanted_yes rfl (by exact (congrArg some hb5))) ?_
  rintro _ σ9 ⟨_, ⟨rfl, rfl⟩, H, -⟩
  replace H : Hp _ _ _ [_, _] := H
  refine st (v := (B r6)) (rv_pick_t (congrArg B hb5) rfl) (sm (B r6) rfl ?_)
  rcases Bool.eq_false_or_eq_true r6 with hb10 | hb10
  ·replace h := bif_t hb10 h
   refine st_g (v := (Sl Cc Ca Cd)) (congrArg some hb10) (rv_move rfl) ?_
   revert h; refine br fun r11 hx12 h => ?_
   have hc13 := c_spec_isVector (Bb := Cc) (Bc := Cd) hx12
   refine st_call (cx_call hc13 (ent_f hc13.fn rfl) hn0 (H.sel' [1, 0, 1] rfl rfl : Hp S0 σ0 _ ([_] ++ _))) (wanted_yes rfl (by exact (congrArg some hb10))) ?_
   rintro _ σ14 ⟨_, ⟨rfl, rfl⟩, H, -⟩
   replace H : Hp _ _ _ [_, _] := H
   refine st (v := (B r11)) (rv_pick_t (congrArg B hb10) rfl) (sa (B r11) rfl (w_end (q_then (c_ret ?_))))
   obtain rfl := sj h
   exact fin_ret (v := (B r11)) (results_ok Tryz.results26 (res_tmp (v := (B r11)) rfl res_nil) rfl) ⟨rfl, rfl⟩ (H.sel' [] rfl rfl)
  ·replace h := bif_f hb10 h
   refine st_skip (congrArg some hb10) (st_skip (congrArg some hb10) (st (v := (B false)) (rv_pick_f (congrArg B hb10) rfl) (sa (B false) rfl (w_end (q_then (c_ret ?_))))))
   obtain rfl := sj h
   exact fin_ret (v := (B false)) (results_ok Tryz.results26 (res_tmp (v := (B false)) rfl res_nil) rfl) ⟨rfl, rfl⟩ (H.sel' [] rfl rfl)
 ·replace h := bif_f hb5 h
  refine st_skip (congrArg some hb5) (st_skip (congrArg some hb5) (st (v := (B false)) (rv_pick_f (congrArg B hb5) rfl) (sm (B false) rfl (st_skip rfl (st_skip rfl (st (v := (B false)) (rv_pick_f rfl rfl) (sa (B false) rfl (w_end (q_then (c_ret ?_))))))))))
  obtain rfl := sj h
  exact fin_ret (v := (B false)) (results_ok Tryz.results26 (res_tmp (v := (B false)) rfl res_nil) rfl) ⟨rfl, rfl⟩ (H.sel' [] rfl rfl)

end Go.Vs

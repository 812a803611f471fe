/- The functions compute what their models say. -/
import Derived.Test.YtnkflplbeagljaaGreatKProbeNearestC4
set_option linter.unusedVariables false
set_option linter.unusedSimpArgs false
set_option maxRecDepth 20000
namespace Go.Vs
open Go Go.Proofs
attribute [local irreducible] Code.wp Code.wpIn wpList wpListIn wpQuiet Calls CallsIn

theorem c_slices_symMergeCmpFunc_int__impl_ProbeOrder_1 : ∀ (fuel : Nat) {Gq : List Int} {Az : Int} {Je : Int} {Jf : Int} {Hm : List (List Int)} {Hn : List Int} {Gt : Option Addr} {Gu : Nat} {Ho : Option Addr} {Hq : Nat} {Hr Ht Hu : Nat} {Hv Hw : List Value} {Hx : Option Addr} {Hy : Nat} {Hz Ja Jb : Nat} {Jc Jd : List Value} {r : (List Int)} (h : M.slices_symMergeCmpFunc_int__impl_ProbeOrder_1 fuel Gq Az Je Jf Hm Hn = some r),
    Cal2 Tryz.prog 137 [(Sl Gt Gq Gu), (I Az), (I Je), (I Jf), (.func (.func 62) #[] #[(pt Ht Hu), (pt Ja Jb)])] [Ch.own 0 0 (Sl Gt Gq Gu) Gq, Ch.bx Hr Ht Hu [(Sl Ho Hm Hq)] Hv Hw, Ch.ro 0 (Sl Ho Hm Hq) Hm, Ch.bx Hz Ja Jb [(Sl Hx Hn Hy)] Jc Jd, Ch.ro 0 (Sl Hx Hn Hy) Hn] (fun n0 v L => v = (.tuple #[]) ∧ L = [Ch.own 0 0 (Sl Gt r Gu) r, Ch.bx Hr Ht Hu [(Sl Ho Hm Hq)] Hv Hw, Ch.bx Hz Ja Jb [(Sl Hx Hn Hy)] Jc Jd] ∧ r.length = Gq.length) := by
 intro fuel
 induction fuel with
 | zero => intro _ _ _ _ _ _ _ _ _ _ _ _ _ _ _ _ _ _ _ _ _ _ r h; cases h
 | succ fuel ih =>
 ·intro Gq Az Je Jf Hm Hn Gt Gu Ho Hq Hr Ht Hu Hv Hw Hx Hy Hz Ja Jb Jc Jd r h
  replace h : M.slices_symMergeCmpFunc_int__impl_ProbeOrder_1_F (M.slices_symMergeCmpFunc_int__impl_ProbeOrder_1 fuel) Gq Az Je Jf Hm Hn = some r := h
  refine cal2 (n := 220) Tryz.func137 rfl rfl rfl rfl ?_
  intro S0 σ0 n0 hn0 H
  unfold M.slices_symMergeCmpFunc_int__impl_ProbeOrder_1_F at h
  refine c_seq (c_seq (rg (sm (I Je) rfl (sm (I Az) rfl (st (v := (I (w64 (Je - Az)))) (rv_sub (a := Je) (b := Az) rfl rfl) (st (v := (B ((w64 (Je - Az)) == 1))) (rv_eql (a := (w64 (Je - Az))) (b := 1) rfl rfl) (w_end (q_then ?_))))))))
  refine cd_cond ((w64 (Je - Az)) == 1) rfl (fun hb1 => ?_) (fun hb1 => ?_)
  ·replace h := bif_t hb1 h
   refine c_seq (rg (sm (I Je) rfl (sa (I Je) rfl (w_end (q_then (c_seq (rg (sm (I Jf) rfl (sa (I Jf) rfl (w_end (q_then ?_)))))))))))
   refine c_seq ?_
   obtain ⟨o2, hj, h'⟩ := bind_some h
   clear h
   refine c_cut (fun e a w => e = .normal ∧ ∃ (ρ : Nat → Value) (σ : St), a = fr 220 (updL ρ [(0, (Sl Gt Gq Gu)), (1, (I Az)), (4, (.func (.func 62) #[] #[(pt Ht Hu), (pt Ja Jb)])), (10, (I o2))]) ∧ w = σ.w ∧ Hp S0 σ0 σ [Ch.own 0 0 (Sl Gt Gq Gu) Gq, Ch.ro 0 (Sl Ho Hm Hq) Hm, Ch.bx Hr Ht Hu [(Sl Ho Hm Hq)] Hv Hw, Ch.ro 0 (Sl Hx Hn Hy) Hn, Ch.bx Hz Ja Jb [(Sl Hx Hn Hy)] Jc Jd]) ?_ ?_
   ·clear h'
    rename _ = some o2 => h
    refine c_blk (wp_loopM _ h (fun s3 a w => ∃ (ρ : Nat → Value) (σ : St), a = fr 220 (updL ρ [(0, (Sl Gt Gq Gu)), (1, (I Az)), (4, (.func (.func 62) #[] #[(pt Ht Hu), (pt Ja Jb)])), (10, (I s3.1)), (11, (I s3.2))]) ∧ w = σ.w ∧ Hp S0 σ0 σ [Ch.own 0 0 (Sl Gt Gq Gu) Gq, Ch.ro 0 (Sl Ho Hm Hq) Hm, Ch.bx Hr Ht Hu [(Sl Ho Hm Hq)] Hv Hw, Ch.ro 0 (Sl Hx Hn Hy) Hn, Ch.bx Hz Ja Jb [(Sl Hx Hn Hy)] Jc Jd]) ⟨_, σ0, fr_join ⟨rfl, rfl, rfl, rfl, rfl, trivial⟩, rfl, H.sel' [0, 2, 1, 4, 3] rfl rfl⟩ ?_)
    clear h H
    rintro s3 a w o ⟨ρ, σ4, rfl, rfl, H⟩ h hres
    refine c_seq (c_seq (rg (sm (I s3.1) rfl (sm (I s3.2) rfl (st (v := (B (decide (s3.1 < s3.2)))) (rv_lss (a := s3.1) (b := s3.2) rfl rfl) (w_end (q_then ?_)))))))
    refine cd_cond (decide (s3.1 < s3.2)) rfl (fun hb5 => ?_) (fun hb5 => ?_)
    ·replace h := bif_t hb5 h
     refine c_skip (q_then (c_blk (c_seq (rg (sm (I s3.1) rfl (sm (I s3.2) rfl (st (v := (I (w64 (s3.1 + s3.2)))) (rv_add (a := s3.1) (b := s3.2) rfl rfl) (st (v := (.int .u64 (wk .u64 (w64 (s3.1 + s3.2))))) (rvk_conv (k := .i64) (k' := .u64) (a := (w64 (s3.1 + s3.2))) Tryz.underlying3 Tryz.underlying138 rfl) ?_))))))))
     refine st (v := (.int .u64 (gshr .u64 (wk .u64 (w64 (s3.1 + s3.2))) 1))) (rvk_shr (k := .u64) (k' := .u64) (a := (wk .u64 (w64 (s3.1 + s3.2)))) (b := 1) rfl rfl (by decide)) ?_
     refine st (v := (I (wk .i64 (gshr .u64 (wk .u64 (w64 (s3.1 + s3.2))) 1)))) (rvk_conv (k := .u64) (k' := .i64) (a := (gshr .u64 (wk .u64 (w64 (s3.1 + s3.2))) 1)) Tryz.underlying138 Tryz.underlying3 rfl) (sa (I (wk .i64 (gshr .u64 (wk .u64 (w64 (s3.1 + s3.2))) 1))) rfl (w_end (q_then (c_seq ?_))))
     refine rgP (σ := σ4) 9 (by kernel_rfl) (by kernel_rfl) (by kernel_rfl) ?_
     refine sq (v := (.func (.func 62) #[] #[(pt Ht Hu), (pt Ja Jb)])) (rv_move rfl) (sq (v := (Sl Gt Gq Gu)) (rv_move rfl) (sq (v := (I (wk .i64 (gshr .u64 (wk .u64 (w64 (s3.1 + s3.2))) 1)))) (rv_move rfl) ?_))
     revert h; refine br fun x6 hx7 h => ?_
     obtain ⟨b9, o10, hi8, -⟩ := (H.own 0 rfl).ix hx7
     refine sq (v := (pt b9 o10)) (rv_ix Tryz.underlying24 ti3 rfl rfl hi8) ?_
     have hc11 := ((H.own 0 rfl).at hx7 hi8).int
     refine sq (v := (I x6)) (rv_load1 Tryz.underlying3 rfl rfl hc11) (sq (v := (Sl Gt Gq Gu)) (rv_move rfl) (sq (v := (I Az)) (rv_move rfl) ?_))
     revert h; refine br fun x12 hx13 h => ?_
     obtain ⟨b15, o16, hi14, -⟩ := (H.own 0 rfl).ix hx13
     refine sq (v := (pt b15 o16)) (rv_ix Tryz.underlying24 ti3 rfl rfl hi14) ?_
     have hc17 := ((H.own 0 rfl).at hx13 hi14).int
     refine sq (v := (I x12)) (rv_load1 Tryz.underlying3 rfl rfl hc17) (sq_end ?_)
     intro σ18 hm19
     replace H := H.grow (hm19.mono fun _ h => h); clear hm19
     revert h; refine br fun r20 hx21 h => ?_
     have hc22 := c_impl_ProbeOrder_1__p_SSint__p24 (Fd := Hr) (Fe := Ht) (Ff := Hu) (Fg := Hv) (Fh := Hw) (Fb := Ho) (Fc := Hq) (Gk := Hz) (Gl := Ja) (Gm := Jb) (Gn := Jc) (Gp := Jd) (Gi := Hx) (Gj := Hy) hx21
     refine st_call (cx_call hc22 (ent_v (cap := [(pt Ht Hu), (pt Ja Jb)]) hc22.fn rfl rfl) hn0 (H.sel' [2, 1, 4, 3, 0, 1, 3] rfl rfl : Hp S0 σ0 _ ([_, _, _, _] ++ _))) wn ?_
     rintro _ σ23 ⟨_, ⟨rfl, rfl⟩, H, -⟩
     replace H : Hp _ _ _ [_, _, _, _, _] := H
     refine st (v := (B (decide (r20 < 0)))) (rv_lss (a := r20) (b := 0) rfl rfl) (w_end (q_then ?_))
     refine cd_cond (decide (r20 < 0)) rfl (fun hb24 => ?_) (fun hb24 => ?_)
     ·replace h := bif_t hb24 h
      refine rg (sm (I (wk .i64 (gshr .u64 (wk .u64 (w64 (s3.1 + s3.2))) 1))) rfl (st (v := (I (w64 ((wk .i64 (gshr .u64 (wk .u64 (w64 (s3.1 + s3.2))) 1)) + 1)))) (rv_add (a := (wk .i64 (gshr .u64 (wk .u64 (w64 (s3.1 + s3.2))) 1))) (b := 1) rfl rfl) (sa (I (w64 ((wk .i64 (gshr .u64 (wk .u64 (w64 (s3.1 + s3.2))) 1)) + 1))) rfl (w_end (q_blk (q_then ?_))))))
      obtain rfl := sj h
      exact ⟨_, rfl, _, σ23, fr_join ⟨rfl, rfl, rfl, rfl, rfl, trivial⟩, rfl, H.sel' [2, 3, 0, 4, 1] rfl rfl⟩
     ·replace h := bif_f hb24 h
      refine rg (sm (I (wk .i64 (gshr .u64 (wk .u64 (w64 (s3.1 + s3.2))) 1))) rfl (sa (I (wk .i64 (gshr .u64 (wk .u64 (w64 (s3.1 + s3.2))) 1))) rfl (w_end (q_blk (q_then ?_)))))
      obtain rfl := sj h
      exact ⟨_, rfl, _, σ23, fr_join ⟨rfl, rfl, rfl, rfl, rfl, trivial⟩, rfl, H.sel' [2, 3, 0, 4, 1] rfl rfl⟩
    ·replace h := bif_f hb5 h
     refine c_exit (q_then_x (q_then_x (q_blk_hit ?_)))
     obtain rfl := sj h
     obtain rfl := hres _ rfl
     exact ⟨rfl, _, σ4, fr_join ⟨rfl, rfl, rfl, rfl, trivial⟩, rfl, H.sel' [0, 1, 2, 3, 4] rfl rfl⟩
   ·clear hj
    have h := h'
    clear h' H
    rintro e a w ⟨rfl, ρ, σ25, rfl, rfl, H⟩
    refine q_then (c_seq (c_seq (rg (sm (I Az) rfl (sa (I Az) rfl (w_end (q_then ?_)))))))
    obtain ⟨o26, hj, h'⟩ := bind_some h
    clear h
    refine c_cut (fun e a w => e = .normal ∧ ∃ (ρ : Nat → Value) (σ : St), a = fr 220 (updL ρ [(0, (Sl Gt o26 Gu)), (4, (.func (.func 62) #[] #[(pt Ht Hu), (pt Ja Jb)]))]) ∧ w = σ.w ∧ Hp S0 σ0 σ [Ch.own 0 0 (Sl Gt o26 Gu) o26, Ch.ro 0 (Sl Ho Hm Hq) Hm, Ch.bx Hr Ht Hu [(Sl Ho Hm Hq)] Hv Hw, Ch.ro 0 (Sl Hx Hn Hy) Hn, Ch.bx Hz Ja Jb [(Sl Hx Hn Hy)] Jc Jd] ∧ o26.length = Gq.length) ?_ ?_
    ·clear h'
     rename _ = some o26 => h
     refine c_blk (wp_loopM _ h (fun s27 a w => ∃ (ρ : Nat → Value) (σ : St), a = fr 220 (updL ρ [(0, (Sl Gt s27.1 Gu)), (4, (.func (.func 62) #[] #[(pt Ht Hu), (pt Ja Jb)])), (10, (I o2)), (13, (I s27.2))]) ∧ w = σ.w ∧ Hp S0 σ0 σ [Ch.own 0 0 (Sl Gt s27.1 Gu) s27.1, Ch.ro 0 (Sl Ho Hm Hq) Hm, Ch.bx Hr Ht Hu [(Sl Ho Hm Hq)] Hv Hw, Ch.ro 0 (Sl Hx Hn Hy) Hn, Ch.bx Hz Ja Jb [(Sl Hx Hn Hy)] Jc Jd] ∧ s27.1.length = Gq.length) ⟨_, σ25, fr_join ⟨rfl, rfl, rfl, rfl, trivial⟩, rfl, H.sel' [0, 1, 2, 3, 4] rfl rfl, rfl⟩ ?_)
     clear h H
     rintro s27 a w o ⟨ρ, σ28, rfl, rfl, H, hn29⟩ h hres
     refine c_seq (c_seq (rg (sm (I s27.2) rfl (sm (I o2) rfl (st (v := (I (w64 (o2 - 1)))) (rv_sub (a := o2) (b := 1) rfl rfl) (st (v := (B (decide (s27.2 < (w64 (o2 - 1)))))) (rv_lss (a := s27.2) (b := (w64 (o2 - 1))) rfl rfl) (w_end (q_then ?_))))))))
     refine cd_cond (decide (s27.2 < (w64 (o2 - 1)))) rfl (fun hb30 => ?_) (fun hb30 => ?_)
     ·replace h := bif_t hb30 h
      refine c_skip (q_then (c_seq (c_blk ?_)))
      revert h; refine br fun x31 hx32 h => ?_
      obtain ⟨b34, o35, hi33, -⟩ := (H.own 0 rfl).ix hx32
      have hc36 := ((H.own 0 rfl).at hx32 hi33).int
      revert h; refine br fun x37 hx38 h => ?_
      obtain ⟨b40, o41, hi39, -⟩ := (H.own 0 rfl).ix hx38
      have hc42 := ((H.own 0 rfl).at hx38 hi39).int
      revert h; refine br fun x43 hx44 h => ?_
      obtain ⟨b46, o47, hi45, -⟩ := (H.own 0 rfl).ix hx44
      have Hs := H
      refine rg2 (σ := σ28) (Nm := Unit) 16 [15] [[false], [true]] [[(0, 0)], [(0, 0)], [(0, 0), (1, 1)], [(0, 0), (1, 1)], [(0, 0), (1, 1)], [(0, 0)], [(0, 0)], [(0, 0)], [(0, 0)], [(0, 0)], [(0, 0)], [(0, 0)], [(0, 0)], [(0, 0)], [(0, 0)], [(0, 1)]] 1 [fun _ => fun σm => Hp S0 σ0 σm [Ch.own 0 0 (Sl Gt s27.1 Gu) s27.1, Ch.ro 0 (Sl Ho Hm Hq) Hm, Ch.bx Hr Ht Hu [(Sl Ho Hm Hq)] Hv Hw, Ch.ro 0 (Sl Hx Hn Hy) Hn, Ch.bx Hz Ja Jb [(Sl Hx Hn Hy)] Jc Jd] ∧ Md (cov []) σ28 σm, fun _ => fun σm => Hp S0 σ0 σm [Ch.own 0 0 (Sl Gt s27.1 Gu) (s27.1.set s27.2.toNat x31), Ch.ro 0 (Sl Ho Hm Hq) Hm, Ch.bx Hr Ht Hu [(Sl Ho Hm Hq)] Hv Hw, Ch.ro 0 (Sl Hx Hn Hy) Hn, Ch.bx Hz Ja Jb [(Sl Hx Hn Hy)] Jc Jd] ∧ Md (fun i => (cov []) i ∨ (fun b => blk (Sl Gt s27.1 Gu) = some b) i) σ28 σm] [fun _ => (Sl Gt s27.1 Gu), fun _ => (I s27.2), fun _ => (Sl Gt s27.1 Gu), fun _ => (I s27.2), fun _ => (I (w64 (s27.2 + 1))), fun _ => (Sl Gt s27.1 Gu), fun _ => (I s27.2), fun _ => (I (w64 (s27.2 + 1))), fun _ => (pt b34 o35), fun _ => (I x31), fun _ => (Sl Gt s27.1 Gu), fun _ => (I s27.2), fun _ => (pt b40 o41), fun _ => (I x37), fun _ => (pt b46 o47), fun _ => undef] () (by kernel_rfl) (by kernel_rfl) ?_ ?_ ?_
      ·intro σm m0
       exact ⟨H.grow (m0.mono fun _ h => h.elim), m0⟩
      ·refine ac rfl (by
         intro k _nm ρ σm hJ hoff hdep
         have e0 := look_off (N := 220) (hoff 0 rfl) rfl
         exact dp_v (v := (Sl Gt s27.1 Gu)) wn (rv_move e0) rfl hJ) ?_
       refine ac rfl (by
         intro k _nm ρ σm hJ hoff hdep
         have e13 := look_off (N := 220) (hoff 13 rfl) rfl
         exact dp_v (v := (I s27.2)) wn (rv_move e13) rfl hJ) ?_
       refine ac rfl (by
         intro k _nm ρ σm hJ hoff hdep
         have e0 := look_off (N := 220) (hoff 0 rfl) rfl
         exact dp_v (v := (Sl Gt s27.1 Gu)) wn (rv_move e0) rfl hJ) ?_
       refine ac rfl (by
         intro k _nm ρ σm hJ hoff hdep
         have e13 := look_off (N := 220) (hoff 13 rfl) rfl
         exact dp_v (v := (I s27.2)) wn (rv_move e13) rfl hJ) ?_
       refine ac rfl (by
         intro k _nm ρ σm hJ hoff hdep
         have e64 := hdep 3 rfl rfl 64 rfl
         exact dp_v (v := (I (w64 (s27.2 + 1)))) wn (rv_add (a := s27.2) (b := 1) e64 rfl) rfl hJ) ?_
       refine ac rfl (by
         intro k _nm ρ σm hJ hoff hdep
         have e0 := look_off (N := 220) (hoff 0 rfl) rfl
         exact dp_v (v := (Sl Gt s27.1 Gu)) wn (rv_move e0) rfl hJ) ?_
       refine ac rfl (by
         intro k _nm ρ σm hJ hoff hdep
         have e13 := look_off (N := 220) (hoff 13 rfl) rfl
         exact dp_v (v := (I s27.2)) wn (rv_move e13) rfl hJ) ?_
       refine ac rfl (by
         intro k _nm ρ σm hJ hoff hdep
         have e67 := hdep 6 rfl rfl 67 rfl
         exact dp_v (v := (I (w64 (s27.2 + 1)))) wn (rv_add (a := s27.2) (b := 1) e67 rfl) rfl hJ) ?_
       refine ac rfl (by
         intro k _nm ρ σm hJ hoff hdep
         have e66 := hdep 5 rfl rfl 66 rfl
         have e68 := hdep 7 rfl rfl 68 rfl
         exact dp_v (v := (pt b34 o35)) wn (rv_ix Tryz.underlying24 ti3 e66 e68 hi33) rfl hJ) ?_
       refine all_cons (by
         refine ⟨?_, ?_⟩
         ·intro _nm ρ σm hJ hoff hdep
          have e69 := hdep 8 rfl rfl 69 rfl
          obtain ⟨H, m⟩ := id hJ
          have hc36 := ((H.own 0 rfl).at hx32 hi33).int
          exact dp_v (v := (I x31)) wn (rv_load1 Tryz.underlying3 rfl e69 hc36) rfl hJ
         trivial) ?_
       refine ac rfl (by
         intro k _nm ρ σm hJ hoff hdep
         have e0 := look_off (N := 220) (hoff 0 rfl) rfl
         exact dp_v (v := (Sl Gt s27.1 Gu)) wn (rv_move e0) rfl hJ) ?_
       refine ac rfl (by
         intro k _nm ρ σm hJ hoff hdep
         have e13 := look_off (N := 220) (hoff 13 rfl) rfl
         exact dp_v (v := (I s27.2)) wn (rv_move e13) rfl hJ) ?_
       refine ac rfl (by
         intro k _nm ρ σm hJ hoff hdep
         have e71 := hdep 10 rfl rfl 71 rfl
         have e72 := hdep 11 rfl rfl 72 rfl
         exact dp_v (v := (pt b40 o41)) wn (rv_ix Tryz.underlying24 ti3 e71 e72 hi39) rfl hJ) ?_
       refine all_cons (by
         refine ⟨?_, ?_⟩
         ·intro _nm ρ σm hJ hoff hdep
          have e73 := hdep 12 rfl rfl 73 rfl
          obtain ⟨H, m⟩ := id hJ
          have hc42 := ((H.own 0 rfl).at hx38 hi39).int
          exact dp_v (v := (I x37)) wn (rv_load1 Tryz.underlying3 rfl e73 hc42) rfl hJ
         trivial) ?_
       refine ac rfl (by
         intro k _nm ρ σm hJ hoff hdep
         have e61 := hdep 0 rfl rfl 61 rfl
         have e62 := hdep 1 rfl rfl 62 rfl
         exact dp_v (v := (pt b46 o47)) wn (rv_ix Tryz.underlying24 ti3 e61 e62 hi45) rfl hJ) ?_
       refine all_cons (by
         refine ⟨?_, ?_⟩
         ·intro _nm ρ σm hJ hoff hdep
          have e75 := hdep 14 rfl rfl 75 rfl
          have e70 := hdep 9 rfl rfl 70 rfl
          obtain ⟨H, m⟩ := id hJ
          refine dp_exS wn rfl (ex_store_own (e' := x31) (vs := [(I x31)]) (k := 0) H (i := 0) rfl ti3 hx44 hi45 e75 rfl e70 rfl rfl (Nat.le_of_ble_eq_true rfl) (by simp [plain]) (by rintro _ rfl; exact rfl)) ?_
          rintro σq ⟨H2, m2⟩
          exact ⟨_, (), rfl, ⟨H2.sel' [0, 1, 2, 3, 4] rfl rfl, m.comp m2⟩, stab [0, 1, 2, 3, 4, 5, 6, 7, 8, 9, 10, 11, 12, 13, 14] (by kernel_rfl) ⟨rfl, rfl, rfl, rfl, rfl, rfl, rfl, rfl, rfl, rfl, rfl, rfl, rfl, rfl, rfl, trivial⟩⟩
         trivial) ?_
       exact all_nil
      ·intro _nm ρ σ48 hJ hoff hrel
       have e0 := look_off (N := 220) (hoff 0 rfl) rfl
       have e4 := look_off (N := 220) (hoff 4 rfl) rfl
       have e10 := look_off (N := 220) (hoff 10 rfl) rfl
       have e13 := look_off (N := 220) (hoff 13 rfl) rfl
       have e63 := hrel 2 rfl 63 rfl
       have e65 := hrel 4 rfl 65 rfl
       have e74 := hrel 13 rfl 74 rfl
       obtain ⟨H, -⟩ := (show Hp S0 σ0 σ48 [Ch.own 0 0 (Sl Gt s27.1 Gu) (s27.1.set s27.2.toNat x31), Ch.ro 0 (Sl Ho Hm Hq) Hm, Ch.bx Hr Ht Hu [(Sl Ho Hm Hq)] Hv Hw, Ch.ro 0 (Sl Hx Hn Hy) Hn, Ch.bx Hz Ja Jb [(Sl Hx Hn Hy)] Jc Jd] ∧ Md (fun i => (cov []) i ∨ (fun b => blk (Sl Gt s27.1 Gu) = some b) i) σ28 σ48 from hJ)
       clear hJ Hs
       rw [fr_lookL (L := [(0, (Sl Gt s27.1 Gu)), (4, (.func (.func 62) #[] #[(pt Ht Hu), (pt Ja Jb)])), (10, (I o2)), (13, (I s27.2)), (63, (Sl Gt s27.1 Gu)), (65, (I (w64 (s27.2 + 1)))), (74, (I x37))]) ⟨e0, e4, e10, e13, e63, e65, e74, trivial⟩]
       clear hoff hrel e0 e4 e10 e13 e63 e65 e74
       have hsl : (Sl Gt s27.1 Gu) = (Sl Gt (s27.1.set s27.2.toNat x31) Gu) := sl_len (by simp)
       rw [hsl]; rw [hsl] at H; clear hsl
       revert h; refine br fun x49 hx50 h => ?_
       obtain ⟨b52, o53, hi51, -⟩ := (H.own 0 rfl).ix hx50
       refine st (v := (pt b52 o53)) (rv_ix Tryz.underlying24 ti3 rfl rfl hi51) ?_
       refine st_exS (ex_store_own (e' := x37) (vs := [(I x37)]) (k := 0) H (i := 0) rfl ti3 hx50 hi51 rfl rfl rfl rfl rfl (Nat.le_of_ble_eq_true rfl) (by simp [plain]) (by rintro _ rfl; exact rfl)) wn ?_
       rintro σ54 ⟨H, -⟩
       have hsl : (Sl Gt (s27.1.set s27.2.toNat x31) Gu) = (Sl Gt ((s27.1.set s27.2.toNat x31).set (w64 (s27.2 + 1)).toNat x37) Gu) := sl_len List.length_set.symm
       rw [hsl]; rw [hsl] at H; clear hsl
       refine w_end (q_blk (q_then (rg (sm (I s27.2) rfl (st (v := (I (w64 (s27.2 + 1)))) (rv_add (a := s27.2) (b := 1) rfl rfl) (sa (I (w64 (s27.2 + 1))) rfl (w_end (q_then ?_))))))))
       obtain rfl := sj h
       exact ⟨_, rfl, _, σ54, fr_join ⟨rfl, rfl, rfl, rfl, trivial⟩, rfl, H.sel' [0, 1, 2, 3, 4] rfl rfl, (List.length_set.trans (List.length_set.trans hn29))⟩
     ·replace h := bif_f hb30 h
      refine c_exit (q_then_x (q_then_x (q_blk_hit ?_)))
      obtain rfl := sj h
      obtain rfl := hres _ rfl
      exact ⟨rfl, _, σ28, fr_join ⟨rfl, rfl, trivial⟩, rfl, H.sel' [0, 1, 2, 3, 4] rfl rfl, hn29⟩
    ·clear hj
     have h := h'
     clear h' H
     rintro e a w ⟨rfl, ρ, σ55, rfl, rfl, H, hn56⟩
     refine q_then (c_ret (q_then_r ?_))
     obtain rfl := sj h
     exact fin_ret (v := (.tuple #[])) (results_ok Tryz.results137 res_nil rfl) ⟨rfl, rfl, hn56⟩ (H.sel' [0, 2, 4] rfl rfl)
  ·replace h := bif_f hb1 h
   refine c_skip (q_then (c_seq (c_seq (rg (sm (I Jf) rfl (sm (I Je) rfl (st (v := (I (w64 (Jf - Je)))) (rv_sub (a := Jf) (b := Je) rfl rfl) (st (v := (B ((w64 (Jf - Je)) == 1))) (rv_eql (a := (w64 (Jf - Je))) (b := 1) rfl rfl) (w_end (q_then ?_))))))))))
   refine cd_cond ((w64 (Jf - Je)) == 1) rfl (fun hb57 => ?_) (fun hb57 => ?_)
   ·replace h := bif_t hb57 h
    refine c_seq (rg (sm (I Az) rfl (sa (I Az) rfl (w_end (q_then (c_seq (rg (sm (I Je) rfl (sa (I Je) rfl (w_end (q_then ?_)))))))))))
    refine c_seq ?_
    obtain ⟨o58, hj, h'⟩ := bind_some h
    clear h
    refine c_cut (fun e a w => e = .normal ∧ ∃ (ρ : Nat → Value) (σ : St), a = fr 220 (updL ρ [(0, (Sl Gt Gq Gu)), (2, (I Je)), (4, (.func (.func 62) #[] #[(pt Ht Hu), (pt Ja Jb)])), (14, (I o58))]) ∧ w = σ.w ∧ Hp S0 σ0 σ [Ch.own 0 0 (Sl Gt Gq Gu) Gq, Ch.ro 0 (Sl Ho Hm Hq) Hm, Ch.bx Hr Ht Hu [(Sl Ho Hm Hq)] Hv Hw, Ch.ro 0 (Sl Hx Hn Hy) Hn, Ch.bx Hz Ja Jb [(Sl Hx Hn Hy)] Jc Jd]) ?_ ?_
    ·clear h'
     rename _ = some o58 => h
     refine c_blk (wp_loopM _ h (fun s59 a w => ∃ (ρ : Nat → Value) (σ : St), a = fr 220 (updL ρ [(0, (Sl Gt Gq Gu)), (2, (I Je)), (4, (.func (.func 62) #[] #[(pt Ht Hu), (pt Ja Jb)])), (14, (I s59.1)), (15, (I s59.2))]) ∧ w = σ.w ∧ Hp S0 σ0 σ [Ch.own 0 0 (Sl Gt Gq Gu) Gq, Ch.ro 0 (Sl Ho Hm Hq) Hm, Ch.bx Hr Ht Hu [(Sl Ho Hm Hq)] Hv Hw, Ch.ro 0 (Sl Hx Hn Hy) Hn, Ch.bx Hz Ja Jb [(Sl Hx Hn Hy)] Jc Jd]) ⟨_, σ0, fr_join ⟨rfl, rfl, rfl, rfl, rfl, trivial⟩, rfl, H.sel' [0, 2, 1, 4, 3] rfl rfl⟩ ?_)
     clear h H
     rintro s59 a w o ⟨ρ, σ60, rfl, rfl, H⟩ h hres
     refine c_seq (c_seq (rg (sm (I s59.1) rfl (sm (I s59.2) rfl (st (v := (B (decide (s59.1 < s59.2)))) (rv_lss (a := s59.1) (b := s59.2) rfl rfl) (w_end (q_then ?_)))))))
     refine cd_cond (decide (s59.1 < s59.2)) rfl (fun hb61 => ?_) (fun hb61 => ?_)
     ·replace h := bif_t hb61 h
      refine c_skip (q_then (c_blk (c_seq (rg (sm (I s59.1) rfl (sm (I s59.2) rfl (st (v := (I (w64 (s59.1 + s59.2)))) (rv_add (a := s59.1) (b := s59.2) rfl rfl) (st (v := (.int .u64 (wk .u64 (w64 (s59.1 + s59.2))))) (rvk_conv (k := .i64) (k' := .u64) (a := (w64 (s59.1 + s59.2))) Tryz.underlying3 Tryz.underlying138 rfl) ?_))))))))
      refine st (v := (.int .u64 (gshr .u64 (wk .u64 (w64 (s59.1 + s59.2))) 1))) (rvk_shr (k := .u64) (k' := .u64) (a := (wk .u64 (w64 (s59.1 + s59.2)))) (b := 1) rfl rfl (by decide)) ?_
      refine st (v := (I (wk .i64 (gshr .u64 (wk .u64 (w64 (s59.1 + s59.2))) 1)))) (rvk_conv (k := .u64) (k' := .i64) (a := (gshr .u64 (wk .u64 (w64 (s59.1 + s59.2))) 1)) Tryz.underlying138 Tryz.underlying3 rfl) (sa (I (wk .i64 (gshr .u64 (wk .u64 (w64 (s59.1 + s59.2))) 1))) rfl (w_end (q_then (c_seq ?_))))
      refine rgP (σ := σ60) 9 (by kernel_rfl) (by kernel_rfl) (by kernel_rfl) ?_
      refine sq (v := (.func (.func 62) #[] #[(pt Ht Hu), (pt Ja Jb)])) (rv_move rfl) (sq (v := (Sl Gt Gq Gu)) (rv_move rfl) (sq (v := (I Je)) (rv_move rfl) ?_))
      revert h; refine br fun x62 hx63 h => ?_
      obtain ⟨b65, o66, hi64, -⟩ := (H.own 0 rfl).ix hx63
      refine sq (v := (pt b65 o66)) (rv_ix Tryz.underlying24 ti3 rfl rfl hi64) ?_
      have hc67 := ((H.own 0 rfl).at hx63 hi64).int
      refine sq (v := (I x62)) (rv_load1 Tryz.underlying3 rfl rfl hc67) (sq (v := (Sl Gt Gq Gu)) (rv_move rfl) (sq (v := (I (wk .i64 (gshr .u64 (wk .u64 (w64 (s59.1 + s59.2))) 1)))) (rv_move rfl) ?_))
      revert h; refine br fun x68 hx69 h => ?_
      obtain ⟨b71, o72, hi70, -⟩ := (H.own 0 rfl).ix hx69
      refine sq (v := (pt b71 o72)) (rv_ix Tryz.underlying24 ti3 rfl rfl hi70) ?_
      have hc73 := ((H.own 0 rfl).at hx69 hi70).int
      refine sq (v := (I x68)) (rv_load1 Tryz.underlying3 rfl rfl hc73) (sq_end ?_)
      intro σ74 hm75
      replace H := H.grow (hm75.mono fun _ h => h); clear hm75
      revert h; refine br fun r76 hx77 h => ?_
      have hc78 := c_impl_ProbeOrder_1__p_SSint__p24 (Fd := Hr) (Fe := Ht) (Ff := Hu) (Fg := Hv) (Fh := Hw) (Fb := Ho) (Fc := Hq) (Gk := Hz) (Gl := Ja) (Gm := Jb) (Gn := Jc) (Gp := Jd) (Gi := Hx) (Gj := Hy) hx77
      refine st_call (cx_call hc78 (ent_v (cap := [(pt Ht Hu), (pt Ja Jb)]) hc78.fn rfl rfl) hn0 (H.sel' [2, 1, 4, 3, 0, 1, 3] rfl rfl : Hp S0 σ0 _ ([_, _, _, _] ++ _))) wn ?_
      rintro _ σ79 ⟨_, ⟨rfl, rfl⟩, H, -⟩
      replace H : Hp _ _ _ [_, _, _, _, _] := H
      refine st (v := (B (decide (r76 < 0)))) (rv_lss (a := r76) (b := 0) rfl rfl) (st (v := (B (!(decide (r76 < 0))))) (rv_not rfl) (w_end (q_then ?_)))
      refine cd_cond (!(decide (r76 < 0))) rfl (fun hb80 => ?_) (fun hb80 => ?_)
      ·replace h := bif_t hb80 h
       refine rg (sm (I (wk .i64 (gshr .u64 (wk .u64 (w64 (s59.1 + s59.2))) 1))) rfl (st (v := (I (w64 ((wk .i64 (gshr .u64 (wk .u64 (w64 (s59.1 + s59.2))) 1)) + 1)))) (rv_add (a := (wk .i64 (gshr .u64 (wk .u64 (w64 (s59.1 + s59.2))) 1))) (b := 1) rfl rfl) (sa (I (w64 ((wk .i64 (gshr .u64 (wk .u64 (w64 (s59.1 + s59.2))) 1)) + 1))) rfl (w_end (q_blk (q_then ?_))))))
       obtain rfl := sj h
       exact ⟨_, rfl, _, σ79, fr_join ⟨rfl, rfl, rfl, rfl, rfl, trivial⟩, rfl, H.sel' [2, 3, 0, 4, 1] rfl rfl⟩
      ·replace h := bif_f hb80 h
       refine rg (sm (I (wk .i64 (gshr .u64 (wk .u64 (w64 (s59.1 + s59.2))) 1))) rfl (sa (I (wk .i64 (gshr .u64 (wk .u64 (w64 (s59.1 + s59.2))) 1))) rfl (w_end (q_blk (q_then ?_)))))
       obtain rfl := sj h
       exact ⟨_, rfl, _, σ79, fr_join ⟨rfl, rfl, rfl, rfl, rfl, trivial⟩, rfl, H.sel' [2, 3, 0, 4, 1] rfl rfl⟩
     ·replace h := bif_f hb61 h
      refine c_exit (q_then_x (q_then_x (q_blk_hit ?_)))
      obtain rfl := sj h
      obtain rfl := hres _ rfl
      exact ⟨rfl, _, σ60, fr_join ⟨rfl, rfl, rfl, rfl, trivial⟩, rfl, H.sel' [0, 1, 2, 3, 4] rfl rfl⟩
    ·clear hj
     have h := h'
     clear h' H
     rintro e a w ⟨rfl, ρ, σ81, rfl, rfl, H⟩
     refine q_then (c_seq (c_seq (rg (sm (I Je) rfl (sa (I Je) rfl (w_end (q_then ?_)))))))
     obtain ⟨o82, hj, h'⟩ := bind_some h
     clear h
     refine c_cut (fun e a w => e = .normal ∧ ∃ (ρ : Nat → Value) (σ : St), a = fr 220 (updL ρ [(0, (Sl Gt o82 Gu)), (4, (.func (.func 62) #[] #[(pt Ht Hu), (pt Ja Jb)]))]) ∧ w = σ.w ∧ Hp S0 σ0 σ [Ch.own 0 0 (Sl Gt o82 Gu) o82, Ch.ro 0 (Sl Ho Hm Hq) Hm, Ch.bx Hr Ht Hu [(Sl Ho Hm Hq)] Hv Hw, Ch.ro 0 (Sl Hx Hn Hy) Hn, Ch.bx Hz Ja Jb [(Sl Hx Hn Hy)] Jc Jd] ∧ o82.length = Gq.length) ?_ ?_
     ·clear h'
      rename _ = some o82 => h
      refine c_blk (wp_loopM _ h (fun s83 a w => ∃ (ρ : Nat → Value) (σ : St), a = fr 220 (updL ρ [(0, (Sl Gt s83.1 Gu)), (4, (.func (.func 62) #[] #[(pt Ht Hu), (pt Ja Jb)])), (14, (I o58)), (17, (I s83.2))]) ∧ w = σ.w ∧ Hp S0 σ0 σ [Ch.own 0 0 (Sl Gt s83.1 Gu) s83.1, Ch.ro 0 (Sl Ho Hm Hq) Hm, Ch.bx Hr Ht Hu [(Sl Ho Hm Hq)] Hv Hw, Ch.ro 0 (Sl Hx Hn Hy) Hn, Ch.bx Hz Ja Jb [(Sl Hx Hn Hy)] Jc Jd] ∧ s83.1.length = Gq.length) ⟨_, σ81, fr_join ⟨rfl, rfl, rfl, rfl, trivial⟩, rfl, H.sel' [0, 1, 2, 3, 4] rfl rfl, rfl⟩ ?_)
      clear h H
      rintro s83 a w o ⟨ρ, σ84, rfl, rfl, H, hn85⟩ h hres
      refine c_seq (c_seq (rg (sm (I s83.2) rfl (sm (I o58) rfl (st (v := (B (decide (o58 < s83.2)))) (rv_gtr (a := s83.2) (b := o58) rfl rfl) (w_end (q_then ?_)))))))
      refine cd_cond (decide (o58 < s83.2)) rfl (fun hb86 => ?_) (fun hb86 => ?_)
      ·replace h := bif_t hb86 h
       refine c_skip (q_then (c_seq (c_blk ?_)))
       revert h; refine br fun x87 hx88 h => ?_
       obtain ⟨b90, o91, hi89, -⟩ := (H.own 0 rfl).ix hx88
       have hc92 := ((H.own 0 rfl).at hx88 hi89).int
       revert h; refine br fun x93 hx94 h => ?_
       obtain ⟨b96, o97, hi95, -⟩ := (H.own 0 rfl).ix hx94
       have hc98 := ((H.own 0 rfl).at hx94 hi95).int
       revert h; refine br fun x99 hx100 h => ?_
       obtain ⟨b102, o103, hi101, -⟩ := (H.own 0 rfl).ix hx100
       have Hs := H
       refine rg2 (σ := σ84) (Nm := Unit) 16 [15] [[false], [true]] [[(0, 0)], [(0, 0)], [(0, 0), (1, 1)], [(0, 0), (1, 1)], [(0, 0), (1, 1)], [(0, 0)], [(0, 0)], [(0, 0)], [(0, 0)], [(0, 0)], [(0, 0)], [(0, 0)], [(0, 0)], [(0, 0)], [(0, 0)], [(0, 1)]] 1 [fun _ => fun σm => Hp S0 σ0 σm [Ch.own 0 0 (Sl Gt s83.1 Gu) s83.1, Ch.ro 0 (Sl Ho Hm Hq) Hm, Ch.bx Hr Ht Hu [(Sl Ho Hm Hq)] Hv Hw, Ch.ro 0 (Sl Hx Hn Hy) Hn, Ch.bx Hz Ja Jb [(Sl Hx Hn Hy)] Jc Jd] ∧ Md (cov []) σ84 σm, fun _ => fun σm => Hp S0 σ0 σm [Ch.own 0 0 (Sl Gt s83.1 Gu) (s83.1.set s83.2.toNat x87), Ch.ro 0 (Sl Ho Hm Hq) Hm, Ch.bx Hr Ht Hu [(Sl Ho Hm Hq)] Hv Hw, Ch.ro 0 (Sl Hx Hn Hy) Hn, Ch.bx Hz Ja Jb [(Sl Hx Hn Hy)] Jc Jd] ∧ Md (fun i => (cov []) i ∨ (fun b => blk (Sl Gt s83.1 Gu) = some b) i) σ84 σm] [fun _ => (Sl Gt s83.1 Gu), fun _ => (I s83.2), fun _ => (Sl Gt s83.1 Gu), fun _ => (I s83.2), fun _ => (I (w64 (s83.2 - 1))), fun _ => (Sl Gt s83.1 Gu), fun _ => (I s83.2), fun _ => (I (w64 (s83.2 - 1))), fun _ => (pt b90 o91), fun _ => (I x87), fun _ => (Sl Gt s83.1 Gu), fun _ => (I s83.2), fun _ => (pt b96 o97), fun _ => (I x93), fun _ => (pt b102 o103), fun _ => undef] () (by kernel_rfl) (by kernel_rfl) ?_ ?_ ?_
       ·intro σm m0
        exact ⟨H.grow (m0.mono fun _ h => h.elim), m0⟩
       ·refine ac rfl (by
          intro k _nm ρ σm hJ hoff hdep
          have e0 := look_off (N := 220) (hoff 0 rfl) rfl
          exact dp_v (v := (Sl Gt s83.1 Gu)) wn (rv_move e0) rfl hJ) ?_
        refine ac rfl (by
          intro k _nm ρ σm hJ hoff hdep
          have e17 := look_off (N := 220) (hoff 17 rfl) rfl
          exact dp_v (v := (I s83.2)) wn (rv_move e17) rfl hJ) ?_
        refine ac rfl (by
          intro k _nm ρ σm hJ hoff hdep
          have e0 := look_off (N := 220) (hoff 0 rfl) rfl
          exact dp_v (v := (Sl Gt s83.1 Gu)) wn (rv_move e0) rfl hJ) ?_
        refine ac rfl (by
          intro k _nm ρ σm hJ hoff hdep
          have e17 := look_off (N := 220) (hoff 17 rfl) rfl
          exact dp_v (v := (I s83.2)) wn (rv_move e17) rfl hJ) ?_
        refine ac rfl (by
          intro k _nm ρ σm hJ hoff hdep
          have e116 := hdep 3 rfl rfl 116 rfl
          exact dp_v (v := (I (w64 (s83.2 - 1)))) wn (rv_sub (a := s83.2) (b := 1) e116 rfl) rfl hJ) ?_
        refine ac rfl (by
          intro k _nm ρ σm hJ hoff hdep
          have e0 := look_off (N := 220) (hoff 0 rfl) rfl
          exact dp_v (v := (Sl Gt s83.1 Gu)) wn (rv_move e0) rfl hJ) ?_
        refine ac rfl (by
          intro k _nm ρ σm hJ hoff hdep
          have e17 := look_off (N := 220) (hoff 17 rfl) rfl
          exact dp_v (v := (I s83.2)) wn (rv_move e17) rfl hJ) ?_
        refine ac rfl (by
          intro k _nm ρ σm hJ hoff hdep
          have e119 := hdep 6 rfl rfl 119 rfl
          exact dp_v (v := (I (w64 (s83.2 - 1)))) wn (rv_sub (a := s83.2) (b := 1) e119 rfl) rfl hJ) ?_
        refine ac rfl (by
          intro k _nm ρ σm hJ hoff hdep
          have e118 := hdep 5 rfl rfl 118 rfl
          have e120 := hdep 7 rfl rfl 120 rfl
          exact dp_v (v := (pt b90 o91)) wn (rv_ix Tryz.underlying24 ti3 e118 e120 hi89) rfl hJ) ?_
        refine all_cons (by
          refine ⟨?_, ?_⟩
          ·intro _nm ρ σm hJ hoff hdep
           have e121 := hdep 8 rfl rfl 121 rfl
           obtain ⟨H, m⟩ := id hJ
           have hc92 := ((H.own 0 rfl).at hx88 hi89).int
           exact dp_v (v := (I x87)) wn (rv_load1 Tryz.underlying3 rfl e121 hc92) rfl hJ
          trivial) ?_
        refine ac rfl (by
          intro k _nm ρ σm hJ hoff hdep
          have e0 := look_off (N := 220) (hoff 0 rfl) rfl
          exact dp_v (v := (Sl Gt s83.1 Gu)) wn (rv_move e0) rfl hJ) ?_
        refine ac rfl (by
          intro k _nm ρ σm hJ hoff hdep
          have e17 := look_off (N := 220) (hoff 17 rfl) rfl
          exact dp_v (v := (I s83.2)) wn (rv_move e17) rfl hJ) ?_
        refine ac rfl (by
          intro k _nm ρ σm hJ hoff hdep
          have e123 := hdep 10 rfl rfl 123 rfl
          have e124 := hdep 11 rfl rfl 124 rfl
          exact dp_v (v := (pt b96 o97)) wn (rv_ix Tryz.underlying24 ti3 e123 e124 hi95) rfl hJ) ?_
        refine all_cons (by
          refine ⟨?_, ?_⟩
          ·intro _nm ρ σm hJ hoff hdep
           have e125 := hdep 12 rfl rfl 125 rfl
           obtain ⟨H, m⟩ := id hJ
           have hc98 := ((H.own 0 rfl).at hx94 hi95).int
           exact dp_v (v := (I x93)) wn (rv_load1 Tryz.underlying3 rfl e125 hc98) rfl hJ
          trivial) ?_
        refine ac rfl (by
          intro k _nm ρ σm hJ hoff hdep
          have e113 := hdep 0 rfl rfl 113 rfl
          have e114 := hdep 1 rfl rfl 114 rfl
          exact dp_v (v := (pt b102 o103)) wn (rv_ix Tryz.underlying24 ti3 e113 e114 hi101) rfl hJ) ?_
        refine all_cons (by
          refine ⟨?_, ?_⟩
          ·intro _nm ρ σm hJ hoff hdep
           have e127 := hdep 14 rfl rfl 127 rfl
           have e122 := hdep 9 rfl rfl 122 rfl
           obtain ⟨H, m⟩ := id hJ
           refine dp_exS wn rfl (ex_store_own (e' := x87) (vs := [(I x87)]) (k := 0) H (i := 0) rfl ti3 hx100 hi101 e127 rfl e122 rfl rfl (Nat.le_of_ble_eq_true rfl) (by simp [plain]) (by rintro _ rfl; exact rfl)) ?_
           rintro σq ⟨H2, m2⟩
           exact ⟨_, (), rfl, ⟨H2.sel' [0, 1, 2, 3, 4] rfl rfl, m.comp m2⟩, stab [0, 1, 2, 3, 4, 5, 6, 7, 8, 9, 10, 11, 12, 13, 14] (by kernel_rfl) ⟨rfl, rfl, rfl, rfl, rfl, rfl, rfl, rfl, rfl, rfl, rfl, rfl, rfl, rfl, rfl, trivial⟩⟩
          trivial) ?_
        exact all_nil
       ·intro _nm ρ σ104 hJ hoff hrel
        have e0 := look_off (N := 220) (hoff 0 rfl) rfl
        have e4 := look_off (N := 220) (hoff 4 rfl) rfl
        have e14 := look_off (N := 220) (hoff 14 rfl) rfl
        have e17 := look_off (N := 220) (hoff 17 rfl) rfl
        have e115 := hrel 2 rfl 115 rfl
        have e117 := hrel 4 rfl 117 rfl
        have e126 := hrel 13 rfl 126 rfl
        obtain ⟨H, -⟩ := (show Hp S0 σ0 σ104 [Ch.own 0 0 (Sl Gt s83.1 Gu) (s83.1.set s83.2.toNat x87), Ch.ro 0 (Sl Ho Hm Hq) Hm, Ch.bx Hr Ht Hu [(Sl Ho Hm Hq)] Hv Hw, Ch.ro 0 (Sl Hx Hn Hy) Hn, Ch.bx Hz Ja Jb [(Sl Hx Hn Hy)] Jc Jd] ∧ Md (fun i => (cov []) i ∨ (fun b => blk (Sl Gt s83.1 Gu) = some b) i) σ84 σ104 from hJ)
        clear hJ Hs
        rw [fr_lookL (L := [(0, (Sl Gt s83.1 Gu)), (4, (.func (.func 62) #[] #[(pt Ht Hu), (pt Ja Jb)])), (14, (I o58)), (17, (I s83.2)), (115, (Sl Gt s83.1 Gu)), (117, (I (w64 (s83.2 - 1)))), (126, (I x93))]) ⟨e0, e4, e14, e17, e115, e117, e126, trivial⟩]
        clear hoff hrel e0 e4 e14 e17 e115 e117 e126
        have hsl : (Sl Gt s83.1 Gu) = (Sl Gt (s83.1.set s83.2.toNat x87) Gu) := sl_len (by simp)
        rw [hsl]; rw [hsl] at H; clear hsl
        revert h; refine br fun x105 hx106 h => ?_
        obtain ⟨b108, o109, hi107, -⟩ := (H.own 0 rfl).ix hx106
        refine st (v := (pt b108 o109)) (rv_ix Tryz.underlying24 ti3 rfl rfl hi107) ?_
        refine st_exS (ex_store_own (e' := x93) (vs := [(I x93)]) (k := 0) H (i := 0) rfl ti3 hx106 hi107 rfl rfl rfl rfl rfl (Nat.le_of_ble_eq_true rfl) (by simp [plain]) (by rintro _ rfl; exact rfl)) wn ?_
        rintro σ110 ⟨H, -⟩
        have hsl : (Sl Gt (s83.1.set s83.2.toNat x87) Gu) = (Sl Gt ((s83.1.set s83.2.toNat x87).set (w64 (s83.2 - 1)).toNat x93) Gu) := sl_len List.length_set.symm
        rw [hsl]; rw [hsl] at H; clear hsl
        refine w_end (q_blk (q_then (rg (sm (I s83.2) rfl (st (v := (I (w64 (s83.2 - 1)))) (rv_sub (a := s83.2) (b := 1) rfl rfl) (sa (I (w64 (s83.2 - 1))) rfl (w_end (q_then ?_))))))))
        obtain rfl := sj h
        exact ⟨_, rfl, _, σ110, fr_join ⟨rfl, rfl, rfl, rfl, trivial⟩, rfl, H.sel' [0, 1, 2, 3, 4] rfl rfl, (List.length_set.trans (List.length_set.trans hn85))⟩
      ·replace h := bif_f hb86 h
       refine c_exit (q_then_x (q_then_x (q_blk_hit ?_)))
       obtain rfl := sj h
       obtain rfl := hres _ rfl
       exact ⟨rfl, _, σ84, fr_join ⟨rfl, rfl, trivial⟩, rfl, H.sel' [0, 1, 2, 3, 4] rfl rfl, hn85⟩
     ·clear hj
      have h := h'
      clear h' H
      rintro e a w ⟨rfl, ρ, σ111, rfl, rfl, H, hn112⟩
      refine q_then (c_ret (q_then_r ?_))
      obtain rfl := sj h
      exact fin_ret (v := (.tuple #[])) (results_ok Tryz.results137 res_nil rfl) ⟨rfl, rfl, hn112⟩ (H.sel' [0, 2, 4] rfl rfl)
   ·replace h := bif_f hb57 h
    refine c_skip (q_then (c_seq (rg (sm (I Az) rfl (sm (I Jf) rfl (st (v := (I (w64 (Az + Jf)))) (rv_add (a := Az) (b := Jf) rfl rfl) (st (v := (.int .u64 (wk .u64 (w64 (Az + Jf))))) (rvk_conv (k := .i64) (k' := .u64) (a := (w64 (Az + Jf))) Tryz.underlying3 Tryz.underlying138 rfl) ?_)))))))
    refine st (v := (.int .u64 (gshr .u64 (wk .u64 (w64 (Az + Jf))) 1))) (rvk_shr (k := .u64) (k' := .u64) (a := (wk .u64 (w64 (Az + Jf)))) (b := 1) rfl rfl (by decide)) ?_
    refine st (v := (I (wk .i64 (gshr .u64 (wk .u64 (w64 (Az + Jf))) 1)))) (rvk_conv (k := .u64) (k' := .i64) (a := (gshr .u64 (wk .u64 (w64 (Az + Jf))) 1)) Tryz.underlying138 Tryz.underlying3 rfl) (sa (I (wk .i64 (gshr .u64 (wk .u64 (w64 (Az + Jf))) 1))) rfl (w_end (q_then (c_seq (rg (sm (I (wk .i64 (gshr .u64 (wk .u64 (w64 (Az + Jf))) 1))) rfl (sm (I Je) rfl (st (v := (I (w64 ((wk .i64 (gshr .u64 (wk .u64 (w64 (Az + Jf))) 1)) + Je)))) (rv_add (a := (wk .i64 (gshr .u64 (wk .u64 (w64 (Az + Jf))) 1))) (b := Je) rfl rfl) (sa (I (w64 ((wk .i64 (gshr .u64 (wk .u64 (w64 (Az + Jf))) 1)) + Je))) rfl (w_end (q_then ?_)))))))))))
    refine c_seq (rg (sa (I 0) rfl (sa (I 0) rfl (w_end (q_then (c_seq (c_seq (rg (sm (I Je) rfl (sm (I (wk .i64 (gshr .u64 (wk .u64 (w64 (Az + Jf))) 1))) rfl (st (v := (B (decide ((wk .i64 (gshr .u64 (wk .u64 (w64 (Az + Jf))) 1)) < Je)))) (rv_gtr (a := Je) (b := (wk .i64 (gshr .u64 (wk .u64 (w64 (Az + Jf))) 1))) rfl rfl) ?_)))))))))))
    refine w_end (q_then ?_)
    obtain ⟨o113, hj, h'⟩ := bind_some h
    clear h
    refine c_cut (fun e a w => e = .normal ∧ ∃ (ρ : Nat → Value) (σ : St), a = fr 220 (updL ρ [(0, (Sl Gt Gq Gu)), (1, (I Az)), (2, (I Je)), (3, (I Jf)), (4, (.func (.func 62) #[] #[(pt Ht Hu), (pt Ja Jb)])), (18, (I (wk .i64 (gshr .u64 (wk .u64 (w64 (Az + Jf))) 1)))), (19, (I (w64 ((wk .i64 (gshr .u64 (wk .u64 (w64 (Az + Jf))) 1)) + Je)))), (20, (I o113.1)), (21, (I o113.2))]) ∧ w = σ.w ∧ Hp S0 σ0 σ [Ch.own 0 0 (Sl Gt Gq Gu) Gq, Ch.ro 0 (Sl Ho Hm Hq) Hm, Ch.bx Hr Ht Hu [(Sl Ho Hm Hq)] Hv Hw, Ch.ro 0 (Sl Hx Hn Hy) Hn, Ch.bx Hz Ja Jb [(Sl Hx Hn Hy)] Jc Jd]) ?_ ?_
    ·clear h'
     rename _ = some o113 => h
     refine cd_cond (decide ((wk .i64 (gshr .u64 (wk .u64 (w64 (Az + Jf))) 1)) < Je)) rfl (fun hb114 => ?_) (fun hb114 => ?_)
     ·replace h := bif_t hb114 h
      refine c_seq (rg (sm (I (w64 ((wk .i64 (gshr .u64 (wk .u64 (w64 (Az + Jf))) 1)) + Je))) rfl (sm (I Jf) rfl (st (v := (I (w64 ((w64 ((wk .i64 (gshr .u64 (wk .u64 (w64 (Az + Jf))) 1)) + Je)) - Jf)))) (rv_sub (a := (w64 ((wk .i64 (gshr .u64 (wk .u64 (w64 (Az + Jf))) 1)) + Je))) (b := Jf) rfl rfl) (sa (I (w64 ((w64 ((wk .i64 (gshr .u64 (wk .u64 (w64 (Az + Jf))) 1)) + Je)) - Jf))) rfl (w_end (q_then (rg (sm (I (wk .i64 (gshr .u64 (wk .u64 (w64 (Az + Jf))) 1))) rfl (sa (I (wk .i64 (gshr .u64 (wk .u64 (w64 (Az + Jf))) 1))) rfl (w_end ?_)))))))))))
      obtain rfl := sj h
      exact ⟨rfl, _, σ0, fr_join ⟨rfl, rfl, rfl, rfl, rfl, rfl, rfl, rfl, rfl, trivial⟩, rfl, H.sel' [0, 2, 1, 4, 3] rfl rfl⟩
     ·replace h := bif_f hb114 h
      refine c_seq (rg (sm (I Az) rfl (sa (I Az) rfl (w_end (q_then (rg (sm (I Je) rfl (sa (I Je) rfl (w_end ?_)))))))))
      obtain rfl := sj h
      exact ⟨rfl, _, σ0, fr_join ⟨rfl, rfl, rfl, rfl, rfl, rfl, rfl, rfl, rfl, trivial⟩, rfl, H.sel' [0, 2, 1, 4, 3] rfl rfl⟩
    ·clear hj
     have h := h'
     clear h' H
     rintro e a w ⟨rfl, ρ, σ115, rfl, rfl, H⟩
     refine q_then (c_seq (rg (sm (I (w64 ((wk .i64 (gshr .u64 (wk .u64 (w64 (Az + Jf))) 1)) + Je))) rfl (st (v := (I (w64 ((w64 ((wk .i64 (gshr .u64 (wk .u64 (w64 (Az + Jf))) 1)) + Je)) - 1)))) (rv_sub (a := (w64 ((wk .i64 (gshr .u64 (wk .u64 (w64 (Az + Jf))) 1)) + Je))) (b := 1) rfl rfl) (sa (I (w64 ((w64 ((wk .i64 (gshr .u64 (wk .u64 (w64 (Az + Jf))) 1)) + Je)) - 1))) rfl (w_end (q_then (c_seq ?_))))))))
     obtain ⟨o116, hj, h'⟩ := bind_some h
     clear h
     refine c_cut (fun e a w => e = .normal ∧ ∃ (ρ : Nat → Value) (σ : St), a = fr 220 (updL ρ [(0, (Sl Gt Gq Gu)), (1, (I Az)), (2, (I Je)), (3, (I Jf)), (4, (.func (.func 62) #[] #[(pt Ht Hu), (pt Ja Jb)])), (18, (I (wk .i64 (gshr .u64 (wk .u64 (w64 (Az + Jf))) 1)))), (19, (I (w64 ((wk .i64 (gshr .u64 (wk .u64 (w64 (Az + Jf))) 1)) + Je)))), (20, (I o116))]) ∧ w = σ.w ∧ Hp S0 σ0 σ [Ch.own 0 0 (Sl Gt Gq Gu) Gq, Ch.ro 0 (Sl Ho Hm Hq) Hm, Ch.bx Hr Ht Hu [(Sl Ho Hm Hq)] Hv Hw, Ch.ro 0 (Sl Hx Hn Hy) Hn, Ch.bx Hz Ja Jb [(Sl Hx Hn Hy)] Jc Jd]) ?_ ?_
     ·clear h'
      rename _ = some o116 => h
      refine c_blk (wp_loopM _ h (fun s117 a w => ∃ (ρ : Nat → Value) (σ : St), a = fr 220 (updL ρ [(0, (Sl Gt Gq Gu)), (1, (I Az)), (2, (I Je)), (3, (I Jf)), (4, (.func (.func 62) #[] #[(pt Ht Hu), (pt Ja Jb)])), (18, (I (wk .i64 (gshr .u64 (wk .u64 (w64 (Az + Jf))) 1)))), (19, (I (w64 ((wk .i64 (gshr .u64 (wk .u64 (w64 (Az + Jf))) 1)) + Je)))), (20, (I s117.1)), (21, (I s117.2)), (22, (I (w64 ((w64 ((wk .i64 (gshr .u64 (wk .u64 (w64 (Az + Jf))) 1)) + Je)) - 1))))]) ∧ w = σ.w ∧ Hp S0 σ0 σ [Ch.own 0 0 (Sl Gt Gq Gu) Gq, Ch.ro 0 (Sl Ho Hm Hq) Hm, Ch.bx Hr Ht Hu [(Sl Ho Hm Hq)] Hv Hw, Ch.ro 0 (Sl Hx Hn Hy) Hn, Ch.bx Hz Ja Jb [(Sl Hx Hn Hy)] Jc Jd]) ⟨_, σ115, fr_join ⟨rfl, rfl, rfl, rfl, rfl, rfl, rfl, rfl, rfl, rfl, trivial⟩, rfl, H.sel' [0, 1, 2, 3, 4] rfl rfl⟩ ?_)
      clear h H
      rintro s117 a w o ⟨ρ, σ118, rfl, rfl, H⟩ h hres
      refine c_seq (c_seq (rg (sm (I s117.1) rfl (sm (I s117.2) rfl (st (v := (B (decide (s117.1 < s117.2)))) (rv_lss (a := s117.1) (b := s117.2) rfl rfl) (w_end (q_then ?_)))))))
      refine cd_cond (decide (s117.1 < s117.2)) rfl (fun hb119 => ?_) (fun hb119 => ?_)
      ·replace h := bif_t hb119 h
       refine c_skip (q_then (c_blk (c_seq (rg (sm (I s117.1) rfl (sm (I s117.2) rfl (st (v := (I (w64 (s117.1 + s117.2)))) (rv_add (a := s117.1) (b := s117.2) rfl rfl) (st (v := (.int .u64 (wk .u64 (w64 (s117.1 + s117.2))))) (rvk_conv (k := .i64) (k' := .u64) (a := (w64 (s117.1 + s117.2))) Tryz.underlying3 Tryz.underlying138 rfl) ?_))))))))
       refine st (v := (.int .u64 (gshr .u64 (wk .u64 (w64 (s117.1 + s117.2))) 1))) (rvk_shr (k := .u64) (k' := .u64) (a := (wk .u64 (w64 (s117.1 + s117.2)))) (b := 1) rfl rfl (by decide)) ?_
       refine st (v := (I (wk .i64 (gshr .u64 (wk .u64 (w64 (s117.1 + s117.2))) 1)))) (rvk_conv (k := .u64) (k' := .i64) (a := (gshr .u64 (wk .u64 (w64 (s117.1 + s117.2))) 1)) Tryz.underlying138 Tryz.underlying3 rfl) (sa (I (wk .i64 (gshr .u64 (wk .u64 (w64 (s117.1 + s117.2))) 1))) rfl (w_end (q_then (c_seq ?_))))
       refine rgP (σ := σ118) 11 (by kernel_rfl) (by kernel_rfl) (by kernel_rfl) ?_
       refine sq (v := (.func (.func 62) #[] #[(pt Ht Hu), (pt Ja Jb)])) (rv_move rfl) (sq (v := (Sl Gt Gq Gu)) (rv_move rfl) (sq (v := (I (w64 ((w64 ((wk .i64 (gshr .u64 (wk .u64 (w64 (Az + Jf))) 1)) + Je)) - 1)))) (rv_move rfl) (sq (v := (I (wk .i64 (gshr .u64 (wk .u64 (w64 (s117.1 + s117.2))) 1)))) (rv_move rfl) (sq (v := (I (w64 ((w64 ((w64 ((wk .i64 (gshr .u64 (wk .u64 (w64 (Az + Jf))) 1)) + Je)) - 1)) - (wk .i64 (gshr .u64 (wk .u64 (w64 (s117.1 + s117.2))) 1)))))) (rv_sub (a := (w64 ((w64 ((wk .i64 (gshr .u64 (wk .u64 (w64 (Az + Jf))) 1)) + Je)) - 1))) (b := (wk .i64 (gshr .u64 (wk .u64 (w64 (s117.1 + s117.2))) 1))) rfl rfl) ?_))))
       revert h; refine br fun x120 hx121 h => ?_
       obtain ⟨b123, o124, hi122, -⟩ := (H.own 0 rfl).ix hx121
       refine sq (v := (pt b123 o124)) (rv_ix Tryz.underlying24 ti3 rfl rfl hi122) ?_
       have hc125 := ((H.own 0 rfl).at hx121 hi122).int
       refine sq (v := (I x120)) (rv_load1 Tryz.underlying3 rfl rfl hc125) (sq (v := (Sl Gt Gq Gu)) (rv_move rfl) (sq (v := (I (wk .i64 (gshr .u64 (wk .u64 (w64 (s117.1 + s117.2))) 1)))) (rv_move rfl) ?_))
       revert h; refine br fun x126 hx127 h => ?_
       obtain ⟨b129, o130, hi128, -⟩ := (H.own 0 rfl).ix hx127
       refine sq (v := (pt b129 o130)) (rv_ix Tryz.underlying24 ti3 rfl rfl hi128) ?_
       have hc131 := ((H.own 0 rfl).at hx127 hi128).int
       refine sq (v := (I x126)) (rv_load1 Tryz.underlying3 rfl rfl hc131) (sq_end ?_)
       intro σ132 hm133
       replace H := H.grow (hm133.mono fun _ h => h); clear hm133
       revert h; refine br fun r134 hx135 h => ?_
       have hc136 := c_impl_ProbeOrder_1__p_SSint__p24 (Fd := Hr) (Fe := Ht) (Ff := Hu) (Fg := Hv) (Fh := Hw) (Fb := Ho) (Fc := Hq) (Gk := Hz) (Gl := Ja) (Gm := Jb) (Gn := Jc) (Gp := Jd) (Gi := Hx) (Gj := Hy) hx135
       refine st_call (cx_call hc136 (ent_v (cap := [(pt Ht Hu), (pt Ja Jb)]) hc136.fn rfl rfl) hn0 (H.sel' [2, 1, 4, 3, 0, 1, 3] rfl rfl : Hp S0 σ0 _ ([_, _, _, _] ++ _))) wn ?_
       rintro _ σ137 ⟨_, ⟨rfl, rfl⟩, H, -⟩
       replace H : Hp _ _ _ [_, _, _, _, _] := H
       refine st (v := (B (decide (r134 < 0)))) (rv_lss (a := r134) (b := 0) rfl rfl) (st (v := (B (!(decide (r134 < 0))))) (rv_not rfl) (w_end (q_then ?_)))
       refine cd_cond (!(decide (r134 < 0))) rfl (fun hb138 => ?_) (fun hb138 => ?_)
       ·replace h := bif_t hb138 h
        refine rg (sm (I (wk .i64 (gshr .u64 (wk .u64 (w64 (s117.1 + s117.2))) 1))) rfl (st (v := (I (w64 ((wk .i64 (gshr .u64 (wk .u64 (w64 (s117.1 + s117.2))) 1)) + 1)))) (rv_add (a := (wk .i64 (gshr .u64 (wk .u64 (w64 (s117.1 + s117.2))) 1))) (b := 1) rfl rfl) (sa (I (w64 ((wk .i64 (gshr .u64 (wk .u64 (w64 (s117.1 + s117.2))) 1)) + 1))) rfl (w_end (q_blk (q_then ?_))))))
        obtain rfl := sj h
        exact ⟨_, rfl, _, σ137, fr_join ⟨rfl, rfl, rfl, rfl, rfl, rfl, rfl, rfl, rfl, rfl, trivial⟩, rfl, H.sel' [2, 3, 0, 4, 1] rfl rfl⟩
       ·replace h := bif_f hb138 h
        refine rg (sm (I (wk .i64 (gshr .u64 (wk .u64 (w64 (s117.1 + s117.2))) 1))) rfl (sa (I (wk .i64 (gshr .u64 (wk .u64 (w64 (s117.1 + s117.2))) 1))) rfl (w_end (q_blk (q_then ?_)))))
        obtain rfl := sj h
        exact ⟨_, rfl, _, σ137, fr_join ⟨rfl, rfl, rfl, rfl, rfl, rfl, rfl, rfl, rfl, rfl, trivial⟩, rfl, H.sel' [2, 3, 0, 4, 1] rfl rfl⟩
      ·replace h := bif_f hb119 h
       refine c_exit (q_then_x (q_then_x (q_blk_hit ?_)))
       obtain rfl := sj h
       obtain rfl := hres _ rfl
       exact ⟨rfl, _, σ118, fr_join ⟨rfl, rfl, rfl, rfl, rfl, rfl, rfl, rfl, trivial⟩, rfl, H.sel' [0, 1, 2, 3, 4] rfl rfl⟩
     ·clear hj
      have h := h'
      clear h' H
      rintro e a w ⟨rfl, ρ, σ139, rfl, rfl, H⟩
      refine q_then (c_seq (rg (sm (I (w64 ((wk .i64 (gshr .u64 (wk .u64 (w64 (Az + Jf))) 1)) + Je))) rfl (sm (I o116) rfl (st (v := (I (w64 ((w64 ((wk .i64 (gshr .u64 (wk .u64 (w64 (Az + Jf))) 1)) + Je)) - o116)))) (rv_sub (a := (w64 ((wk .i64 (gshr .u64 (wk .u64 (w64 (Az + Jf))) 1)) + Je))) (b := o116) rfl rfl) (sa (I (w64 ((w64 ((wk .i64 (gshr .u64 (wk .u64 (w64 (Az + Jf))) 1)) + Je)) - o116))) rfl (w_end (q_then (c_seq (c_seq ?_))))))))))
      obtain ⟨o140, hj, h'⟩ := bind_some h
      clear h
      refine c_cut (fun e a w => e = .normal ∧ ∃ (ρ : Nat → Value) (σ : St), a = fr 220 (updL ρ [(0, (Sl Gt Gq Gu)), (1, (I Az)), (2, (I Je)), (3, (I Jf)), (4, (.func (.func 62) #[] #[(pt Ht Hu), (pt Ja Jb)])), (18, (I (wk .i64 (gshr .u64 (wk .u64 (w64 (Az + Jf))) 1)))), (20, (I o116)), (24, (I (w64 ((w64 ((wk .i64 (gshr .u64 (wk .u64 (w64 (Az + Jf))) 1)) + Je)) - o116)))), (185, (B o140))]) ∧ w = σ.w ∧ Hp S0 σ0 σ [Ch.own 0 0 (Sl Gt Gq Gu) Gq, Ch.ro 0 (Sl Ho Hm Hq) Hm, Ch.bx Hr Ht Hu [(Sl Ho Hm Hq)] Hv Hw, Ch.ro 0 (Sl Hx Hn Hy) Hn, Ch.bx Hz Ja Jb [(Sl Hx Hn Hy)] Jc Jd]) ?_ ?_
      ·clear h'
       rename _ = some o140 => h
       refine rg (sm (I o116) rfl (sm (I Je) rfl (st (v := (B (decide (o116 < Je)))) (rv_lss (a := o116) (b := Je) rfl rfl) (sm (B (decide (o116 < Je))) rfl ?_))))
       rcases Bool.eq_false_or_eq_true (decide (o116 < Je)) with hb141 | hb141
       ·replace h := bif_t hb141 h
        refine st_g (v := (I Je)) (congrArg some hb141) (rv_move rfl) (st_g (v := (I (w64 ((w64 ((wk .i64 (gshr .u64 (wk .u64 (w64 (Az + Jf))) 1)) + Je)) - o116)))) (congrArg some hb141) (rv_move rfl) (st_g (v := (B (decide (Je < (w64 ((w64 ((wk .i64 (gshr .u64 (wk .u64 (w64 (Az + Jf))) 1)) + Je)) - o116)))))) (congrArg some hb141) (rv_lss (a := Je) (b := (w64 ((w64 ((wk .i64 (gshr .u64 (wk .u64 (w64 (Az + Jf))) 1)) + Je)) - o116))) rfl rfl) (st (v := (B (decide (Je < (w64 ((w64 ((wk .i64 (gshr .u64 (wk .u64 (w64 (Az + Jf))) 1)) + Je)) - o116)))))) (rv_pick_t (congrArg B hb141) rfl) (w_end ?_))))
        obtain rfl := sj h
        exact ⟨rfl, _, σ139, fr_join ⟨rfl, rfl, rfl, rfl, rfl, rfl, rfl, rfl, rfl, trivial⟩, rfl, H.sel' [0, 1, 2, 3, 4] rfl rfl⟩
       ·replace h := bif_f hb141 h
        refine st_skip (congrArg some hb141) (st_skip (congrArg some hb141) (st_skip (congrArg some hb141) (st (v := (B false)) (rv_pick_f (congrArg B hb141) rfl) (w_end ?_))))
        obtain rfl := sj h
        exact ⟨rfl, _, σ139, fr_join ⟨rfl, rfl, rfl, rfl, rfl, rfl, rfl, rfl, rfl, trivial⟩, rfl, H.sel' [0, 1, 2, 3, 4] rfl rfl⟩
      ·clear hj
       have h := h'
       clear h' H
       rintro e a w ⟨rfl, ρ, σ142, rfl, rfl, H⟩
       refine q_then ?_
       obtain ⟨o143, hj, h'⟩ := bind_some h
       clear h
       refine c_cut (fun e a w => e = .normal ∧ ∃ (ρ : Nat → Value) (σ : St), a = fr 220 (updL ρ [(0, (Sl Gt o143 Gu)), (1, (I Az)), (3, (I Jf)), (4, (.func (.func 62) #[] #[(pt Ht Hu), (pt Ja Jb)])), (18, (I (wk .i64 (gshr .u64 (wk .u64 (w64 (Az + Jf))) 1)))), (20, (I o116)), (24, (I (w64 ((w64 ((wk .i64 (gshr .u64 (wk .u64 (w64 (Az + Jf))) 1)) + Je)) - o116))))]) ∧ w = σ.w ∧ Hp S0 σ0 σ [Ch.own 0 0 (Sl Gt o143 Gu) o143, Ch.ro 0 (Sl Ho Hm Hq) Hm, Ch.bx Hr Ht Hu [(Sl Ho Hm Hq)] Hv Hw, Ch.ro 0 (Sl Hx Hn Hy) Hn, Ch.bx Hz Ja Jb [(Sl Hx Hn Hy)] Jc Jd] ∧ o143.length = Gq.length) ?_ ?_
       ·clear h'
        rename _ = some o143 => h
        refine cd_cond o140 rfl (fun hb144 => ?_) (fun hb144 => ?_)
        ·replace h := bif_t hb144 h
         refine rg (sm (Sl Gt Gq Gu) rfl (sm (I o116) rfl (sm (I Je) rfl (sm (I (w64 ((w64 ((wk .i64 (gshr .u64 (wk .u64 (w64 (Az + Jf))) 1)) + Je)) - o116))) rfl (sm (.func (.func 62) #[] #[(pt Ht Hu), (pt Ja Jb)]) rfl ?_)))))
         revert h; refine br fun r145 hx146 h => ?_
         have hc147 := c_slices_rotateCmpFunc_int__impl_ProbeOrder_1 (Gt := Gt) (Gu := Gu) (Hr := Hr) (Ht := Ht) (Hu := Hu) (Hv := Hv) (Hw := Hw) (Ho := Ho) (Hq := Hq) (Hz := Hz) (Ja := Ja) (Jb := Jb) (Jc := Jc) (Jd := Jd) (Hx := Hx) (Hy := Hy) hx146
         refine st_call (cx_call hc147 (ent_f hc147.fn rfl) hn0 (H.sel' [0, 2, 1, 4, 3, 1, 3] rfl rfl : Hp S0 σ0 _ ([_, _, _, _, _] ++ _))) wn ?_
         rintro _ σ149 ⟨_, ⟨rfl, rfl, hn148⟩, H, -⟩
         replace H : Hp _ _ _ [_, _, _, _, _] := H
         have hsl : (Sl Gt Gq Gu) = (Sl Gt r145 Gu) := sl_len hn148.symm
         try rw [hsl]
         try rw [hsl] at H
         clear hsl
         refine w_end ?_
         obtain rfl := sj h
         exact ⟨rfl, _, σ149, fr_join ⟨rfl, rfl, rfl, rfl, rfl, rfl, rfl, trivial⟩, rfl, H.sel' [0, 3, 1, 4, 2] rfl rfl, hn148⟩
        ·replace h := bif_f hb144 h
         refine c_skip ?_
         obtain rfl := sj h
         exact ⟨rfl, _, σ142, fr_join ⟨rfl, rfl, rfl, rfl, rfl, rfl, rfl, trivial⟩, rfl, H.sel' [0, 1, 2, 3, 4] rfl rfl, rfl⟩
       ·clear hj
        have h := h'
        clear h' H
        rintro e a w ⟨rfl, ρ, σ150, rfl, rfl, H, hn151⟩
        refine q_then (c_seq (c_seq ?_))
        obtain ⟨o152, hj, h'⟩ := bind_some h
        clear h
        refine c_cut (fun e a w => e = .normal ∧ ∃ (ρ : Nat → Value) (σ : St), a = fr 220 (updL ρ [(0, (Sl Gt o143 Gu)), (1, (I Az)), (3, (I Jf)), (4, (.func (.func 62) #[] #[(pt Ht Hu), (pt Ja Jb)])), (18, (I (wk .i64 (gshr .u64 (wk .u64 (w64 (Az + Jf))) 1)))), (20, (I o116)), (24, (I (w64 ((w64 ((wk .i64 (gshr .u64 (wk .u64 (w64 (Az + Jf))) 1)) + Je)) - o116)))), (199, (B o152))]) ∧ w = σ.w ∧ Hp S0 σ0 σ [Ch.own 0 0 (Sl Gt o143 Gu) o143, Ch.ro 0 (Sl Ho Hm Hq) Hm, Ch.bx Hr Ht Hu [(Sl Ho Hm Hq)] Hv Hw, Ch.ro 0 (Sl Hx Hn Hy) Hn, Ch.bx Hz Ja Jb [(Sl Hx Hn Hy)] Jc Jd]) ?_ ?_
        ·clear h'
         rename _ = some o152 => h
         refine rg (sm (I Az) rfl (sm (I o116) rfl (st (v := (B (decide (Az < o116)))) (rv_lss (a := Az) (b := o116) rfl rfl) (sm (B (decide (Az < o116))) rfl ?_))))
         rcases Bool.eq_false_or_eq_true (decide (Az < o116)) with hb153 | hb153
         ·replace h := bif_t hb153 h
          refine st_g (v := (I o116)) (congrArg some hb153) (rv_move rfl) (st_g (v := (I (wk .i64 (gshr .u64 (wk .u64 (w64 (Az + Jf))) 1)))) (congrArg some hb153) (rv_move rfl) (st_g (v := (B (decide (o116 < (wk .i64 (gshr .u64 (wk .u64 (w64 (Az + Jf))) 1)))))) (congrArg some hb153) (rv_lss (a := o116) (b := (wk .i64 (gshr .u64 (wk .u64 (w64 (Az + Jf))) 1))) rfl rfl) (st (v := (B (decide (o116 < (wk .i64 (gshr .u64 (wk .u64 (w64 (Az + Jf))) 1)))))) (rv_pick_t (congrArg B hb153) rfl) (w_end ?_))))
          obtain rfl := sj h
          exact ⟨rfl, _, σ150, fr_join ⟨rfl, rfl, rfl, rfl, rfl, rfl, rfl, rfl, trivial⟩, rfl, H.sel' [0, 1, 2, 3, 4] rfl rfl⟩
         ·replace h := bif_f hb153 h
          refine st_skip (congrArg some hb153) (st_skip (congrArg some hb153) (st_skip (congrArg some hb153) (st (v := (B false)) (rv_pick_f (congrArg B hb153) rfl) (w_end ?_))))
          obtain rfl := sj h
          exact ⟨rfl, _, σ150, fr_join ⟨rfl, rfl, rfl, rfl, rfl, rfl, rfl, rfl, trivial⟩, rfl, H.sel' [0, 1, 2, 3, 4] rfl rfl⟩
        ·clear hj
         have h := h'
         clear h' H
         rintro e a w ⟨rfl, ρ, σ154, rfl, rfl, H⟩
         refine q_then ?_
         obtain ⟨o155, hj, h'⟩ := bind_some h
         clear h
         refine c_cut (fun e a w => e = .normal ∧ ∃ (ρ : Nat → Value) (σ : St), a = fr 220 (updL ρ [(0, (Sl Gt o155 Gu)), (3, (I Jf)), (4, (.func (.func 62) #[] #[(pt Ht Hu), (pt Ja Jb)])), (18, (I (wk .i64 (gshr .u64 (wk .u64 (w64 (Az + Jf))) 1)))), (24, (I (w64 ((w64 ((wk .i64 (gshr .u64 (wk .u64 (w64 (Az + Jf))) 1)) + Je)) - o116))))]) ∧ w = σ.w ∧ Hp S0 σ0 σ [Ch.own 0 0 (Sl Gt o155 Gu) o155, Ch.ro 0 (Sl Ho Hm Hq) Hm, Ch.bx Hr Ht Hu [(Sl Ho Hm Hq)] Hv Hw, Ch.ro 0 (Sl Hx Hn Hy) Hn, Ch.bx Hz Ja Jb [(Sl Hx Hn Hy)] Jc Jd] ∧ o155.length = o143.length) ?_ ?_
         ·clear h'
          rename _ = some o155 => h
          refine cd_cond o152 rfl (fun hb156 => ?_) (fun hb156 => ?_)
          ·replace h := bif_t hb156 h
           refine rg (sm (Sl Gt o143 Gu) rfl (sm (I Az) rfl (sm (I o116) rfl (sm (I (wk .i64 (gshr .u64 (wk .u64 (w64 (Az + Jf))) 1))) rfl (sm (.func (.func 62) #[] #[(pt Ht Hu), (pt Ja Jb)]) rfl ?_)))))
           revert h; refine br fun r157 hx158 h => ?_
           have hc159 := ih (Gt := Gt) (Gu := Gu) (Hr := Hr) (Ht := Ht) (Hu := Hu) (Hv := Hv) (Hw := Hw) (Ho := Ho) (Hq := Hq) (Hz := Hz) (Ja := Ja) (Jb := Jb) (Jc := Jc) (Jd := Jd) (Hx := Hx) (Hy := Hy) hx158
           refine st_call (cx_call hc159 (ent_f hc159.fn rfl) hn0 (H.sel' [0, 2, 1, 4, 3, 1, 3] rfl rfl : Hp S0 σ0 _ ([_, _, _, _, _] ++ _))) wn ?_
           rintro _ σ161 ⟨_, ⟨rfl, rfl, hn160⟩, H, -⟩
           replace H : Hp _ _ _ [_, _, _, _, _] := H
           have hsl : (Sl Gt o143 Gu) = (Sl Gt r157 Gu) := sl_len hn160.symm
           try rw [hsl]
           try rw [hsl] at H
           clear hsl
           refine w_end ?_
           obtain rfl := sj h
           exact ⟨rfl, _, σ161, fr_join ⟨rfl, rfl, rfl, rfl, rfl, trivial⟩, rfl, H.sel' [0, 3, 1, 4, 2] rfl rfl, ((hn160.trans hn151).trans hn151.symm)⟩
          ·replace h := bif_f hb156 h
           refine c_skip ?_
           obtain rfl := sj h
           exact ⟨rfl, _, σ154, fr_join ⟨rfl, rfl, rfl, rfl, rfl, trivial⟩, rfl, H.sel' [0, 1, 2, 3, 4] rfl rfl, rfl⟩
         ·clear hj
          have h := h'
          clear h' H
          rintro e a w ⟨rfl, ρ, σ162, rfl, rfl, H, hn163⟩
          refine q_then (c_seq ?_)
          obtain ⟨o164, hj, h'⟩ := bind_some h
          clear h
          refine c_cut (fun e a w => e = .normal ∧ ∃ (ρ : Nat → Value) (σ : St), a = fr 220 (updL ρ [(0, (Sl Gt o155 Gu)), (3, (I Jf)), (4, (.func (.func 62) #[] #[(pt Ht Hu), (pt Ja Jb)])), (18, (I (wk .i64 (gshr .u64 (wk .u64 (w64 (Az + Jf))) 1)))), (24, (I (w64 ((w64 ((wk .i64 (gshr .u64 (wk .u64 (w64 (Az + Jf))) 1)) + Je)) - o116)))), (213, (B o164))]) ∧ w = σ.w ∧ Hp S0 σ0 σ [Ch.own 0 0 (Sl Gt o155 Gu) o155, Ch.ro 0 (Sl Ho Hm Hq) Hm, Ch.bx Hr Ht Hu [(Sl Ho Hm Hq)] Hv Hw, Ch.ro 0 (Sl Hx Hn Hy) Hn, Ch.bx Hz Ja Jb [(Sl Hx Hn Hy)] Jc Jd]) ?_ ?_
          ·clear h'
           rename _ = some o164 => h
           refine rg (sm (I (wk .i64 (gshr .u64 (wk .u64 (w64 (Az + Jf))) 1))) rfl (sm (I (w64 ((w64 ((wk .i64 (gshr .u64 (wk .u64 (w64 (Az + Jf))) 1)) + Je)) - o116))) rfl (st (v := (B (decide ((wk .i64 (gshr .u64 (wk .u64 (w64 (Az + Jf))) 1)) < (w64 ((w64 ((wk .i64 (gshr .u64 (wk .u64 (w64 (Az + Jf))) 1)) + Je)) - o116)))))) (rv_lss (a := (wk .i64 (gshr .u64 (wk .u64 (w64 (Az + Jf))) 1))) (b := (w64 ((w64 ((wk .i64 (gshr .u64 (wk .u64 (w64 (Az + Jf))) 1)) + Je)) - o116))) rfl rfl) (sm (B (decide ((wk .i64 (gshr .u64 (wk .u64 (w64 (Az + Jf))) 1)) < (w64 ((w64 ((wk .i64 (gshr .u64 (wk .u64 (w64 (Az + Jf))) 1)) + Je)) - o116))))) rfl ?_))))
           rcases Bool.eq_false_or_eq_true (decide ((wk .i64 (gshr .u64 (wk .u64 (w64 (Az + Jf))) 1)) < (w64 ((w64 ((wk .i64 (gshr .u64 (wk .u64 (w64 (Az + Jf))) 1)) + Je)) - o116)))) with hb165 | hb165
           ·replace h := bif_t hb165 h
            refine st_g (v := (I (w64 ((w64 ((wk .i64 (gshr .u64 (wk .u64 (w64 (Az + Jf))) 1)) + Je)) - o116)))) (congrArg some hb165) (rv_move rfl) (st_g (v := (I Jf)) (congrArg some hb165) (rv_move rfl) (st_g (v := (B (decide ((w64 ((w64 ((wk .i64 (gshr .u64 (wk .u64 (w64 (Az + Jf))) 1)) + Je)) - o116)) < Jf)))) (congrArg some hb165) (rv_lss (a := (w64 ((w64 ((wk .i64 (gshr .u64 (wk .u64 (w64 (Az + Jf))) 1)) + Je)) - o116))) (b := Jf) rfl rfl) (st (v := (B (decide ((w64 ((w64 ((wk .i64 (gshr .u64 (wk .u64 (w64 (Az + Jf))) 1)) + Je)) - o116)) < Jf)))) (rv_pick_t (congrArg B hb165) rfl) (w_end ?_))))
            obtain rfl := sj h
            exact ⟨rfl, _, σ162, fr_join ⟨rfl, rfl, rfl, rfl, rfl, rfl, trivial⟩, rfl, H.sel' [0, 1, 2, 3, 4] rfl rfl⟩
           ·replace h := bif_f hb165 h
            refine st_skip (congrArg some hb165) (st_skip (congrArg some hb165) (st_skip (congrArg some hb165) (st (v := (B false)) (rv_pick_f (congrArg B hb165) rfl) (w_end ?_))))
            obtain rfl := sj h
            exact ⟨rfl, _, σ162, fr_join ⟨rfl, rfl, rfl, rfl, rfl, rfl, trivial⟩, rfl, H.sel' [0, 1, 2, 3, 4] rfl rfl⟩
          ·clear hj
           have h := h'
           clear h' H
           rintro e a w ⟨rfl, ρ, σ166, rfl, rfl, H⟩
           refine q_then ?_
           refine cd_cond o164 rfl (fun hb167 => ?_) (fun hb167 => ?_)
           ·replace h := bif_t hb167 h
            refine rg (sm (Sl Gt o155 Gu) rfl (sm (I (wk .i64 (gshr .u64 (wk .u64 (w64 (Az + Jf))) 1))) rfl (sm (I (w64 ((w64 ((wk .i64 (gshr .u64 (wk .u64 (w64 (Az + Jf))) 1)) + Je)) - o116))) rfl (sm (I Jf) rfl (sm (.func (.func 62) #[] #[(pt Ht Hu), (pt Ja Jb)]) rfl ?_)))))
            revert h; refine br fun r168 hx169 h => ?_
            have hc170 := ih (Gt := Gt) (Gu := Gu) (Hr := Hr) (Ht := Ht) (Hu := Hu) (Hv := Hv) (Hw := Hw) (Ho := Ho) (Hq := Hq) (Hz := Hz) (Ja := Ja) (Jb := Jb) (Jc := Jc) (Jd := Jd) (Hx := Hx) (Hy := Hy) hx169
            refine st_call (cx_call hc170 (ent_f hc170.fn rfl) hn0 (H.sel' [0, 2, 1, 4, 3, 1, 3] rfl rfl : Hp S0 σ0 _ ([_, _, _, _, _] ++ _))) wn ?_
            rintro _ σ172 ⟨_, ⟨rfl, rfl, hn171⟩, H, -⟩
            replace H : Hp _ _ _ [_, _, _, _, _] := H
            have hsl : (Sl Gt o155 Gu) = (Sl Gt r168 Gu) := sl_len hn171.symm
            try rw [hsl]
            try rw [hsl] at H
            clear hsl
            refine w_end ?_
            obtain rfl := sj h
            exact fin_end (v := (.tuple #[])) (results_ok Tryz.results137 res_nil rfl) ⟨rfl, rfl, (hn171.trans (hn163.trans hn151))⟩ (H.sel' [0, 1, 2] rfl rfl)
           ·replace h := bif_f hb167 h
            refine c_skip ?_
            obtain rfl := sj h
            exact fin_end (v := (.tuple #[])) (results_ok Tryz.results137 res_nil rfl) ⟨rfl, rfl, (hn163.trans hn151)⟩ (H.sel' [0, 2, 4] rfl rfl)

theorem c_slices_stableCmpFunc_int__impl_ProbeOrder_1 {Gq : List Int} {Ai : Int} {Jg : List (List Int)} {Jh : List Int} {Gt : Option Addr} {Gu : Nat} {Ji : Option Addr} {Jj : Nat} {Jk Jm Jn : Nat} {Jo Jp : List Value} {Jq : Option Addr} {Jr : Nat} {Jt Ju Jv : Nat} {Jw Jx : List Value} {r : (List Int)} (h : M.slices_stableCmpFunc_int__impl_ProbeOrder_1 Gq Ai Jg Jh = some r) :
    Cal2 Tryz.prog 107 [(Sl Gt Gq Gu), (I Ai), (.func (.func 62) #[] #[(pt Jm Jn), (pt Ju Jv)])] [Ch.own 0 0 (Sl Gt Gq Gu) Gq, Ch.bx Jk Jm Jn [(Sl Ji Jg Jj)] Jo Jp, Ch.ro 0 (Sl Ji Jg Jj) Jg, Ch.bx Jt Ju Jv [(Sl Jq Jh Jr)] Jw Jx, Ch.ro 0 (Sl Jq Jh Jr) Jh] (fun n0 v L => v = (.tuple #[]) ∧ L = [Ch.own 0 0 (Sl Gt r Gu) r, Ch.bx Jk Jm Jn [(Sl Ji Jg Jj)] Jo Jp, Ch.bx Jt Ju Jv [(Sl Jq Jh Jr)] Jw Jx] ∧ r.length = Gq.length) := by
 refine cal2 (n := 63) Tryz.func107 rfl rfl rfl rfl ?_
 intro S0 σ0 n0 hn0 H
 unfold M.slices_stableCmpFunc_int__impl_ProbeOrder_1 at h
 refine c_seq (rg (sa (I 20) rfl (w_end (q_then (c_seq (rg (sm (I 20) rfl (sa (I 0) rfl (sa (I 20) rfl (w_end (q_then ?_)))))))))))
 refine c_seq ?_
 obtain ⟨o1, hj, h'⟩ := bind_some h
 clear h
 refine c_cut (fun e a w => e = .normal ∧ ∃ (ρ : Nat → Value) (σ : St), a = fr 63 (updL ρ [(0, (Sl Gt o1.1 Gu)), (1, (I Ai)), (2, (.func (.func 62) #[] #[(pt Jm Jn), (pt Ju Jv)])), (6, (I 20)), (7, (I o1.2))]) ∧ w = σ.w ∧ Hp S0 σ0 σ [Ch.own 0 0 (Sl Gt o1.1 Gu) o1.1, Ch.ro 0 (Sl Ji Jg Jj) Jg, Ch.bx Jk Jm Jn [(Sl Ji Jg Jj)] Jo Jp, Ch.ro 0 (Sl Jq Jh Jr) Jh, Ch.bx Jt Ju Jv [(Sl Jq Jh Jr)] Jw Jx] ∧ o1.1.length = Gq.length) ?_ ?_
 ·clear h'
  rename _ = some o1 => h
  refine c_blk (wp_loopM _ h (fun s2 a w => ∃ (ρ : Nat → Value) (σ : St), a = fr 63 (updL ρ [(0, (Sl Gt s2.1 Gu)), (1, (I Ai)), (2, (.func (.func 62) #[] #[(pt Jm Jn), (pt Ju Jv)])), (6, (I 20)), (7, (I s2.2.1)), (8, (I s2.2.2))]) ∧ w = σ.w ∧ Hp S0 σ0 σ [Ch.own 0 0 (Sl Gt s2.1 Gu) s2.1, Ch.ro 0 (Sl Ji Jg Jj) Jg, Ch.bx Jk Jm Jn [(Sl Ji Jg Jj)] Jo Jp, Ch.ro 0 (Sl Jq Jh Jr) Jh, Ch.bx Jt Ju Jv [(Sl Jq Jh Jr)] Jw Jx] ∧ s2.1.length = Gq.length) ⟨_, σ0, fr_join ⟨rfl, rfl, rfl, rfl, rfl, rfl, trivial⟩, rfl, H.sel' [0, 2, 1, 4, 3] rfl rfl, rfl⟩ ?_)
  clear h H
  rintro s2 a w o ⟨ρ, σ3, rfl, rfl, H, hn4⟩ h hres
  refine c_seq (c_seq (rg (sm (I s2.2.2) rfl (sm (I Ai) rfl (st (v := (B (decide (s2.2.2 ≤ Ai)))) (rv_leq (a := s2.2.2) (b := Ai) rfl rfl) (w_end (q_then ?_)))))))
  refine cd_cond (decide (s2.2.2 ≤ Ai)) rfl (fun hb5 => ?_) (fun hb5 => ?_)
  ·replace h := bif_t hb5 h
   refine c_skip (q_then (c_blk (c_seq (rg (sm (Sl Gt s2.1 Gu) rfl (sm (I s2.2.1) rfl (sm (I s2.2.2) rfl (sm (.func (.func 62) #[] #[(pt Jm Jn), (pt Ju Jv)]) rfl ?_))))))))
   revert h; refine br fun r6 hx7 h => ?_
   have hc8 := c_slices_insertionSortCmpFunc_int__impl_ProbeOrder_1 (Gt := Gt) (Gu := Gu) (Gx := Jk) (Gy := Jm) (Gz := Jn) (Ha := Jo) (Hc := Jp) (Gv := Ji) (Gw := Jj) (Hf := Jt) (Hg := Ju) (Hi := Jv) (Hj := Jw) (Hk := Jx) (Hd := Jq) (He := Jr) hx7
   refine st_call (cx_call hc8 (ent_f hc8.fn rfl) hn0 (H.sel' [0, 2, 1, 4, 3, 1, 3] rfl rfl : Hp S0 σ0 _ ([_, _, _, _, _] ++ _))) wn ?_
   rintro _ σ10 ⟨_, ⟨rfl, rfl, hn9⟩, H, -⟩
   replace H : Hp _ _ _ [_, _, _, _, _] := H
   have hsl : (Sl Gt s2.1 Gu) = (Sl Gt r6 Gu) := sl_len hn9.symm
   try rw [hsl]
   try rw [hsl] at H
   clear hsl
   refine w_end (q_then (c_seq (rg (sm (I s2.2.2) rfl (sa (I s2.2.2) rfl (w_end (q_then (rg (sm (I s2.2.2) rfl (sm (I 20) rfl (st (v := (I (w64 (s2.2.2 + 20)))) (rv_add (a := s2.2.2) (b := 20) rfl rfl) ?_)))))))))))
   refine sa (I (w64 (s2.2.2 + 20))) rfl (w_end (q_blk (q_then ?_)))
   obtain rfl := sj h
   exact ⟨_, rfl, _, σ10, fr_join ⟨rfl, rfl, rfl, rfl, rfl, rfl, trivial⟩, rfl, H.sel' [0, 3, 1, 4, 2] rfl rfl, (hn9.trans hn4)⟩
  ·replace h := bif_f hb5 h
   refine c_exit (q_then_x (q_then_x (q_blk_hit ?_)))
   obtain rfl := sj h
   obtain rfl := hres _ rfl
   exact ⟨rfl, _, σ3, fr_join ⟨rfl, rfl, rfl, rfl, rfl, trivial⟩, rfl, H.sel' [0, 1, 2, 3, 4] rfl rfl, hn4⟩
 ·clear hj
  have h := h'
  clear h' H
  rintro e a w ⟨rfl, ρ, σ11, rfl, rfl, H, hn12⟩
  refine q_then (c_seq (rg (sm (Sl Gt o1.1 Gu) rfl (sm (I o1.2) rfl (sm (I Ai) rfl (sm (.func (.func 62) #[] #[(pt Jm Jn), (pt Ju Jv)]) rfl ?_))))))
  revert h; refine br fun r13 hx14 h => ?_
  have hc15 := c_slices_insertionSortCmpFunc_int__impl_ProbeOrder_1 (Gt := Gt) (Gu := Gu) (Gx := Jk) (Gy := Jm) (Gz := Jn) (Ha := Jo) (Hc := Jp) (Gv := Ji) (Gw := Jj) (Hf := Jt) (Hg := Ju) (Hi := Jv) (Hj := Jw) (Hk := Jx) (Hd := Jq) (He := Jr) hx14
  refine st_call (cx_call hc15 (ent_f hc15.fn rfl) hn0 (H.sel' [0, 2, 1, 4, 3, 1, 3] rfl rfl : Hp S0 σ0 _ ([_, _, _, _, _] ++ _))) wn ?_
  rintro _ σ17 ⟨_, ⟨rfl, rfl, hn16⟩, H, -⟩
  replace H : Hp _ _ _ [_, _, _, _, _] := H
  have hsl : (Sl Gt o1.1 Gu) = (Sl Gt r13 Gu) := sl_len hn16.symm
  try rw [hsl]
  try rw [hsl] at H
  clear hsl
  refine w_end (q_then ?_)
  obtain ⟨o18, hj, h'⟩ := bind_some h
  clear h
  refine c_cut (fun e a w => e = .normal ∧ ∃ (ρ : Nat → Value) (σ : St), a = fr 63 (updL ρ [(0, (Sl Gt o18 Gu)), (2, (.func (.func 62) #[] #[(pt Jm Jn), (pt Ju Jv)]))]) ∧ w = σ.w ∧ Hp S0 σ0 σ [Ch.own 0 0 (Sl Gt o18 Gu) o18, Ch.ro 0 (Sl Ji Jg Jj) Jg, Ch.bx Jk Jm Jn [(Sl Ji Jg Jj)] Jo Jp, Ch.ro 0 (Sl Jq Jh Jr) Jh, Ch.bx Jt Ju Jv [(Sl Jq Jh Jr)] Jw Jx] ∧ o18.length = r13.length) ?_ ?_
  ·clear h'
   rename _ = some o18 => h
   refine c_blk (wp_loopM _ h (fun s19 a w => ∃ (ρ : Nat → Value) (σ : St), a = fr 63 (updL ρ [(0, (Sl Gt s19.1 Gu)), (1, (I Ai)), (2, (.func (.func 62) #[] #[(pt Jm Jn), (pt Ju Jv)])), (6, (I s19.2))]) ∧ w = σ.w ∧ Hp S0 σ0 σ [Ch.own 0 0 (Sl Gt s19.1 Gu) s19.1, Ch.ro 0 (Sl Ji Jg Jj) Jg, Ch.bx Jk Jm Jn [(Sl Ji Jg Jj)] Jo Jp, Ch.ro 0 (Sl Jq Jh Jr) Jh, Ch.bx Jt Ju Jv [(Sl Jq Jh Jr)] Jw Jx] ∧ s19.1.length = r13.length) ⟨_, σ17, fr_join ⟨rfl, rfl, rfl, rfl, trivial⟩, rfl, H.sel' [0, 3, 1, 4, 2] rfl rfl, rfl⟩ ?_)
   clear h H
   rintro s19 a w o ⟨ρ, σ20, rfl, rfl, H, hn21⟩ h hres
   refine c_seq (c_seq (rg (sm (I s19.2) rfl (sm (I Ai) rfl (st (v := (B (decide (s19.2 < Ai)))) (rv_lss (a := s19.2) (b := Ai) rfl rfl) (w_end (q_then ?_)))))))
   refine cd_cond (decide (s19.2 < Ai)) rfl (fun hb22 => ?_) (fun hb22 => ?_)
   ·replace h := bif_t hb22 h
    refine c_skip (q_then (c_blk (c_seq (rg (sm (I s19.2) rfl (st (v := (I (w64 (2 * s19.2)))) (rv_mul (a := 2) (b := s19.2) rfl rfl) (sa (I 0) rfl (sa (I (w64 (2 * s19.2))) rfl (w_end (q_then (c_seq ?_)))))))))))
    obtain ⟨o23, hj, h'⟩ := bind_some h
    clear h
    refine c_cut (fun e a w => e = .normal ∧ ∃ (ρ : Nat → Value) (σ : St), a = fr 63 (updL ρ [(0, (Sl Gt o23.1 Gu)), (1, (I Ai)), (2, (.func (.func 62) #[] #[(pt Jm Jn), (pt Ju Jv)])), (6, (I s19.2)), (7, (I o23.2))]) ∧ w = σ.w ∧ Hp S0 σ0 σ [Ch.own 0 0 (Sl Gt o23.1 Gu) o23.1, Ch.ro 0 (Sl Ji Jg Jj) Jg, Ch.bx Jk Jm Jn [(Sl Ji Jg Jj)] Jo Jp, Ch.ro 0 (Sl Jq Jh Jr) Jh, Ch.bx Jt Ju Jv [(Sl Jq Jh Jr)] Jw Jx] ∧ o23.1.length = s19.1.length) ?_ ?_
    ·clear h'
     rename _ = some o23 => h
     refine c_blk (wp_loopM _ h (fun s24 a w => ∃ (ρ : Nat → Value) (σ : St), a = fr 63 (updL ρ [(0, (Sl Gt s24.1 Gu)), (1, (I Ai)), (2, (.func (.func 62) #[] #[(pt Jm Jn), (pt Ju Jv)])), (6, (I s19.2)), (7, (I s24.2.1)), (8, (I s24.2.2))]) ∧ w = σ.w ∧ Hp S0 σ0 σ [Ch.own 0 0 (Sl Gt s24.1 Gu) s24.1, Ch.ro 0 (Sl Ji Jg Jj) Jg, Ch.bx Jk Jm Jn [(Sl Ji Jg Jj)] Jo Jp, Ch.ro 0 (Sl Jq Jh Jr) Jh, Ch.bx Jt Ju Jv [(Sl Jq Jh Jr)] Jw Jx] ∧ s24.1.length = s19.1.length) ⟨_, σ20, fr_join ⟨rfl, rfl, rfl, rfl, rfl, rfl, trivial⟩, rfl, H.sel' [0, 1, 2, 3, 4] rfl rfl, rfl⟩ ?_)
     clear h H
     rintro s24 a w o ⟨ρ, σ25, rfl, rfl, H, hn26⟩ h hres
     refine c_seq (c_seq (rg (sm (I s24.2.2) rfl (sm (I Ai) rfl (st (v := (B (decide (s24.2.2 ≤ Ai)))) (rv_leq (a := s24.2.2) (b := Ai) rfl rfl) (w_end (q_then ?_)))))))
     refine cd_cond (decide (s24.2.2 ≤ Ai)) rfl (fun hb27 => ?_) (fun hb27 => ?_)
     ·replace h := bif_t hb27 h
      refine c_skip (q_then (c_blk (c_seq (rg (sm (Sl Gt s24.1 Gu) rfl (sm (I s24.2.1) rfl (sm (I s24.2.1) rfl (sm (I s19.2) rfl (st (v := (I (w64 (s24.2.1 + s19.2)))) (rv_add (a := s24.2.1) (b := s19.2) rfl rfl) (sm (I s24.2.2) rfl (sm (.func (.func 62) #[] #[(pt Jm Jn), (pt Ju Jv)]) rfl ?_)))))))))))
      revert h; refine br fun r28 hx29 h => ?_
      have hc30 := c_slices_symMergeCmpFunc_int__impl_ProbeOrder_1 100 (Gt := Gt) (Gu := Gu) (Hr := Jk) (Ht := Jm) (Hu := Jn) (Hv := Jo) (Hw := Jp) (Ho := Ji) (Hq := Jj) (Hz := Jt) (Ja := Ju) (Jb := Jv) (Jc := Jw) (Jd := Jx) (Hx := Jq) (Hy := Jr) hx29
      refine st_call (cx_call hc30 (ent_f hc30.fn rfl) hn0 (H.sel' [0, 2, 1, 4, 3, 1, 3] rfl rfl : Hp S0 σ0 _ ([_, _, _, _, _] ++ _))) wn ?_
      rintro _ σ32 ⟨_, ⟨rfl, rfl, hn31⟩, H, -⟩
      replace H : Hp _ _ _ [_, _, _, _, _] := H
      have hsl : (Sl Gt s24.1 Gu) = (Sl Gt r28 Gu) := sl_len hn31.symm
      try rw [hsl]
      try rw [hsl] at H
      clear hsl
      refine w_end (q_then (c_seq (rg (sm (I s24.2.2) rfl (sa (I s24.2.2) rfl (w_end (q_then (rg (sm (I s24.2.2) rfl (sm (I s19.2) rfl (st (v := (I (w64 (2 * s19.2)))) (rv_mul (a := 2) (b := s19.2) rfl rfl) ?_)))))))))))
      refine st (v := (I (w64 (s24.2.2 + (w64 (2 * s19.2)))))) (rv_add (a := s24.2.2) (b := (w64 (2 * s19.2))) rfl rfl) (sa (I (w64 (s24.2.2 + (w64 (2 * s19.2))))) rfl (w_end (q_blk (q_then ?_))))
      obtain rfl := sj h
      exact ⟨_, rfl, _, σ32, fr_join ⟨rfl, rfl, rfl, rfl, rfl, rfl, trivial⟩, rfl, H.sel' [0, 3, 1, 4, 2] rfl rfl, ((hn31.trans (hn26.trans (hn21.trans (hn16.trans hn12)))).trans (hn21.trans (hn16.trans hn12)).symm)⟩
     ·replace h := bif_f hb27 h
      refine c_exit (q_then_x (q_then_x (q_blk_hit ?_)))
      obtain rfl := sj h
      obtain rfl := hres _ rfl
      exact ⟨rfl, _, σ25, fr_join ⟨rfl, rfl, rfl, rfl, rfl, trivial⟩, rfl, H.sel' [0, 1, 2, 3, 4] rfl rfl, ((hn26.trans (hn21.trans (hn16.trans hn12))).trans (hn21.trans (hn16.trans hn12)).symm)⟩
    ·clear hj
     have h := h'
     clear h' H
     rintro e a w ⟨rfl, ρ, σ33, rfl, rfl, H, hn34⟩
     refine q_then (c_seq (c_seq (rg (sm (I o23.2) rfl (sm (I s19.2) rfl (st (v := (I (w64 (o23.2 + s19.2)))) (rv_add (a := o23.2) (b := s19.2) rfl rfl) (sa (I (w64 (o23.2 + s19.2))) rfl (w_end (q_then (c_seq (rg ?_)))))))))))
     refine sm (I (w64 (o23.2 + s19.2))) rfl (sm (I Ai) rfl (st (v := (B (decide ((w64 (o23.2 + s19.2)) < Ai)))) (rv_lss (a := (w64 (o23.2 + s19.2))) (b := Ai) rfl rfl) (w_end (q_then ?_))))
     obtain ⟨o35, hj, h'⟩ := bind_some h
     clear h
     refine c_cut (fun e a w => e = .normal ∧ ∃ (ρ : Nat → Value) (σ : St), a = fr 63 (updL ρ [(0, (Sl Gt o35 Gu)), (1, (I Ai)), (2, (.func (.func 62) #[] #[(pt Jm Jn), (pt Ju Jv)])), (6, (I s19.2))]) ∧ w = σ.w ∧ Hp S0 σ0 σ [Ch.own 0 0 (Sl Gt o35 Gu) o35, Ch.ro 0 (Sl Ji Jg Jj) Jg, Ch.bx Jk Jm Jn [(Sl Ji Jg Jj)] Jo Jp, Ch.ro 0 (Sl Jq Jh Jr) Jh, Ch.bx Jt Ju Jv [(Sl Jq Jh Jr)] Jw Jx] ∧ o35.length = o23.1.length) ?_ ?_
     ·clear h'
      rename _ = some o35 => h
      refine cd_cond (decide ((w64 (o23.2 + s19.2)) < Ai)) rfl (fun hb36 => ?_) (fun hb36 => ?_)
      ·replace h := bif_t hb36 h
       refine rg (sm (Sl Gt o23.1 Gu) rfl (sm (I o23.2) rfl (sm (I (w64 (o23.2 + s19.2))) rfl (sm (I Ai) rfl (sm (.func (.func 62) #[] #[(pt Jm Jn), (pt Ju Jv)]) rfl ?_)))))
       revert h; refine br fun r37 hx38 h => ?_
       have hc39 := c_slices_symMergeCmpFunc_int__impl_ProbeOrder_1 100 (Gt := Gt) (Gu := Gu) (Hr := Jk) (Ht := Jm) (Hu := Jn) (Hv := Jo) (Hw := Jp) (Ho := Ji) (Hq := Jj) (Hz := Jt) (Ja := Ju) (Jb := Jv) (Jc := Jw) (Jd := Jx) (Hx := Jq) (Hy := Jr) hx38
       refine st_call (cx_call hc39 (ent_f hc39.fn rfl) hn0 (H.sel' [0, 2, 1, 4, 3, 1, 3] rfl rfl : Hp S0 σ0 _ ([_, _, _, _, _] ++ _))) wn ?_
       rintro _ σ41 ⟨_, ⟨rfl, rfl, hn40⟩, H, -⟩
       replace H : Hp _ _ _ [_, _, _, _, _] := H
       have hsl : (Sl Gt o23.1 Gu) = (Sl Gt r37 Gu) := sl_len hn40.symm
       try rw [hsl]
       try rw [hsl] at H
       clear hsl
       refine w_end ?_
       obtain rfl := sj h
       exact ⟨rfl, _, σ41, fr_join ⟨rfl, rfl, rfl, rfl, trivial⟩, rfl, H.sel' [0, 3, 1, 4, 2] rfl rfl, ((hn40.trans (hn34.trans (hn21.trans (hn16.trans hn12)))).trans (hn34.trans (hn21.trans (hn16.trans hn12))).symm)⟩
      ·replace h := bif_f hb36 h
       refine c_skip ?_
       obtain rfl := sj h
       exact ⟨rfl, _, σ33, fr_join ⟨rfl, rfl, rfl, rfl, trivial⟩, rfl, H.sel' [0, 1, 2, 3, 4] rfl rfl, rfl⟩
     ·clear hj
      have h := h'
      clear h' H
      rintro e a w ⟨rfl, ρ, σ42, rfl, rfl, H, hn43⟩
      refine q_then (rg (sm (I s19.2) rfl (st (v := (I (w64 (s19.2 * 2)))) (rv_mul (a := s19.2) (b := 2) rfl rfl) (sa (I (w64 (s19.2 * 2))) rfl (w_end (q_blk (q_then ?_)))))))
      obtain rfl := sj h
      exact ⟨_, rfl, _, σ42, fr_join ⟨rfl, rfl, rfl, rfl, trivial⟩, rfl, H.sel' [0, 1, 2, 3, 4] rfl rfl, ((hn43.trans (hn34.trans (hn21.trans (hn16.trans hn12)))).trans (hn16.trans hn12).symm)⟩
   ·replace h := bif_f hb22 h
    refine c_exit (q_then_x (q_then_x (q_blk_hit ?_)))
    obtain rfl := sj h
    obtain rfl := hres _ rfl
    exact ⟨rfl, _, σ20, fr_join ⟨rfl, rfl, trivial⟩, rfl, H.sel' [0, 1, 2, 3, 4] rfl rfl, ((hn21.trans (hn16.trans hn12)).trans (hn16.trans hn12).symm)⟩
  ·clear hj
   have h := h'
   clear h' H
   rintro e a w ⟨rfl, ρ, σ44, rfl, rfl, H, hn45⟩
   obtain rfl := sj h
   exact fin_end (v := (.tuple #[])) (results_ok Tryz.results107 res_nil rfl) ⟨rfl, rfl, (hn45.trans (hn16.trans hn12))⟩ (H.sel' [0, 2, 4] rfl rfl)

theorem c_slices_SortStableFunc_int_int__impl_ProbeOrder_1 {Bh : List Int} {Jy : List (List Int)} {Jz : List Int} {Ey : Option Addr} {Ez : Nat} {Ka : Option Addr} {Kb : Nat} {Kc Kd Ke : Nat} {Kf Kg : List Value} {Kh : Option Addr} {Ki : Nat} {Kj Kk Kl : Nat} {Km Kn : List Value} {r : (List Int)} (h : M.slices_SortStableFunc_int_int__impl_ProbeOrder_1 Bh Jy Jz = some r) :
    Cal2 Tryz.prog 61 [(Sl Ey Bh Ez), (.func (.func 62) #[] #[(pt Kd Ke), (pt Kk Kl)])] [Ch.own 0 0 (Sl Ey Bh Ez) Bh, Ch.bx Kc Kd Ke [(Sl Ka Jy Kb)] Kf Kg, Ch.ro 0 (Sl Ka Jy Kb) Jy, Ch.bx Kj Kk Kl [(Sl Kh Jz Ki)] Km Kn, Ch.ro 0 (Sl Kh Jz Ki) Jz] (fun n0 v L => v = (.tuple #[]) ∧ L = [Ch.own 0 0 (Sl Ey r Ez) r, Ch.bx Kc Kd Ke [(Sl Ka Jy Kb)] Kf Kg, Ch.bx Kj Kk Kl [(Sl Kh Jz Ki)] Km Kn] ∧ r.length = Bh.length) := by
 refine cal2 (n := 9) Tryz.func61 rfl rfl rfl rfl ?_
 intro S0 σ0 n0 hn0 H
 unfold M.slices_SortStableFunc_int_int__impl_ProbeOrder_1 at h
 refine rg (sm (Sl Ey Bh Ez) rfl (sm (Sl Ey Bh Ez) rfl (st (v := (I (Bh.length : Int))) (rv_len Tryz.underlying24 rfl) (sm (.func (.func 62) #[] #[(pt Kd Ke), (pt Kk Kl)]) rfl ?_))))
 revert h; refine br fun r1 hx2 h => ?_
 have hc3 := c_slices_stableCmpFunc_int__impl_ProbeOrder_1 (Gt := Ey) (Gu := Ez) (Jk := Kc) (Jm := Kd) (Jn := Ke) (Jo := Kf) (Jp := Kg) (Ji := Ka) (Jj := Kb) (Jt := Kj) (Ju := Kk) (Jv := Kl) (Jw := Km) (Jx := Kn) (Jq := Kh) (Jr := Ki) hx2
 refine st_call (cx_call hc3 (ent_f hc3.fn rfl) hn0 (H.sel' [0, 1, 2, 3, 4, 2, 4] rfl rfl : Hp S0 σ0 _ ([_, _, _, _, _] ++ _))) wn ?_
 rintro _ σ5 ⟨_, ⟨rfl, rfl, hn4⟩, H, -⟩
 replace H : Hp _ _ _ [_, _, _, _, _] := H
 have hsl : (Sl Ey Bh Ez) = (Sl Ey r1 Ez) := sl_len hn4.symm
 try rw [hsl]
 try rw [hsl] at H
 clear hsl
 refine w_end ?_
 obtain rfl := sj h
 exact fin_end (v := (.tuple #[])) (results_ok Tryz.results61 res_nil rfl) ⟨rfl, rfl, hn4⟩ (H.sel' [0, 1, 2] rfl rfl)

theorem c_impl_ProbeOrder {Fy : List (List Int)} {Ga : List Int} {Gb : Int} {Gc : Option Addr} {Gd : Nat} {Ge : Option Addr} {Gf : Nat} {r : (List Int)} (h : M.impl_ProbeOrder Fy Ga Gb = some r) :
    Cal2 Tryz.prog 20 [(Sl Gc Fy Gd), (Sl Ge Ga Gf), (I Gb)] [Ch.ro 0 (Sl Gc Fy Gd) Fy, Ch.ro 0 (Sl Ge Ga Gf) Ga] (fun n0 v L => ∃ (az1 : Option Addr), ∃ (cz2 : Nat), v = (Sl az1 r cz2) ∧ L = [Ch.own 0 n0 (Sl az1 r cz2) r]) := by
 refine cal2 (n := 36) Tryz.func20 rfl rfl rfl rfl ?_
 intro S0 σ0 n0 hn0 H
 unfold M.impl_ProbeOrder at h
 refine c_seq (rg (st_ex (ex_box (cs := [(Sl Gc Fy Gd)]) H hn0 rfl rfl) wn ?_))
 rintro _ σ2 ⟨b1, rfl, H, -⟩
 refine st_ex (ex_box (cs := [(Sl Ge Ga Gf)]) H hn0 rfl rfl) wn ?_
 rintro _ σ4 ⟨b3, rfl, H, -⟩
 refine sa (.slice none 0 0) rfl (w_end (q_then (c_seq (c_seq (rg ?_)))))
 have hc5 := H.cell (u := (Sl Gc Fy Gd)) (o' := 0) 1 0 rfl rfl rfl
 refine st (v := (Sl Gc Fy Gd)) (rv_load1 Tryz.underlying37 rfl rfl hc5) ?_
 have hc6 := H.cell (u := (Sl Ge Ga Gf)) (o' := 0) 0 0 rfl rfl rfl
 refine st (v := (Sl Ge Ga Gf)) (rv_load1 Tryz.underlying24 rfl rfl hc6) (sm (I Gb) rfl ?_)
 revert h; refine br fun r7 hx8 h => ?_
 have hc9 := c_impl_validProbe (Gc := Gc) (Gd := Gd) (Ge := Ge) (Gf := Gf) hx8
 refine st_call (cx_call hc9 (ent_f hc9.fn rfl) hn0 (H.sel' [2, 3, 0, 1, 2, 3] rfl rfl : Hp S0 σ0 _ ([_, _] ++ _))) wn ?_
 rintro _ σ10 ⟨_, ⟨rfl, rfl⟩, H, -⟩
 replace H : Hp _ _ _ [_, _, _, _] := H
 refine st (v := (B (!r7))) (rv_not rfl) (w_end (q_then ?_))
 refine cd_cond (!r7) rfl (fun hb11 => ?_) (fun hb11 => ?_)
 ·replace h := bif_t hb11 h
  refine c_seq (rg (sa (.slice none 0 0) rfl (w_end (q_then (c_ret (q_then_r ?_))))))
  replace H := H.nilOwn Int 0 n0
  obtain rfl := sj h
  exact fin_ret (v := (.slice none 0 0)) (results_ok Tryz.results20 (res_tmp (v := (.slice none 0 0)) rfl res_nil) rfl) ⟨none, 0, rfl, rfl⟩ (H.sel' [0] rfl rfl)
 ·replace h := bif_f hb11 h
  refine c_skip (q_then (c_seq (rg ?_)))
  have hc12 := H.cell (u := (Sl Gc Fy Gd)) (o' := 0) 1 0 rfl rfl rfl
  refine st (v := (Sl Gc Fy Gd)) (rv_load1 Tryz.underlying37 rfl rfl hc12) (st (v := (I (Fy.length : Int))) (rv_len Tryz.underlying37 rfl) ?_)
  revert h; refine br fun xs13 hx14 h => ?_
  refine st_ex (ex_make (el := n0) (z0 := (0 : Int)) (zs := [(I 0)]) H hn0 Tryz.underlying24 ti3 rfl rfl rfl (by decide) hx14 rfl rfl) wn ?_
  rintro _ σ18 ⟨b15, c16, rfl, ht17, H, -⟩
  replace ht17 := ht17.trans (gmake_len hx14).symm
  refine sa (Sl (some ⟨b15, 0, none⟩) xs13 c16) rfl (w_end (q_then (c_seq (c_seq (rg (sm (Sl (some ⟨b15, 0, none⟩) xs13 c16) rfl (st (v := (I (xs13.length : Int))) (rv_len Tryz.underlying24 rfl) (sm (I 0) rfl (w_end (q_then ?_))))))))))
  obtain ⟨o19, hj, h'⟩ := bind_some h
  clear h
  refine c_cut (fun e a w => e = .normal ∧ ∃ (ρ : Nat → Value) (σ : St), a = fr 36 (updL ρ [(2, (I Gb)), (3, (pt b1 0)), (4, (pt b3 0)), (7, (Sl (some ⟨b15, 0, none⟩) o19 c16))]) ∧ w = σ.w ∧ Hp S0 σ0 σ [Ch.ro 0 (Sl Gc Fy Gd) Fy, Ch.bx n0 b1 0 [(Sl Gc Fy Gd)] [] [], Ch.ro 0 (Sl Ge Ga Gf) Ga, Ch.bx n0 b3 0 [(Sl Ge Ga Gf)] [] [], Ch.own n0 n0 (Sl (some ⟨b15, 0, none⟩) o19 c16) o19] ∧ c16 = o19.length ∧ o19.length = xs13.length) ?_ ?_
  ·clear h'
   rename _ = some o19 => h
   refine c_blk (wp_loopM _ h (fun s20 a w => ∃ (ρ : Nat → Value) (σ : St), a = fr 36 (updL ρ [(2, (I Gb)), (3, (pt b1 0)), (4, (pt b3 0)), (7, (Sl (some ⟨b15, 0, none⟩) s20.1 c16)), (18, (I (xs13.length : Int))), (19, (I s20.2))]) ∧ w = σ.w ∧ Hp S0 σ0 σ [Ch.ro 0 (Sl Gc Fy Gd) Fy, Ch.bx n0 b1 0 [(Sl Gc Fy Gd)] [] [], Ch.ro 0 (Sl Ge Ga Gf) Ga, Ch.bx n0 b3 0 [(Sl Ge Ga Gf)] [] [], Ch.own n0 n0 (Sl (some ⟨b15, 0, none⟩) s20.1 c16) s20.1] ∧ c16 = s20.1.length ∧ s20.1.length = xs13.length) ⟨_, σ18, fr_join ⟨rfl, rfl, rfl, rfl, rfl, rfl, trivial⟩, rfl, H.sel' [3, 2, 4, 1, 0] rfl rfl, ht17, rfl⟩ ?_)
   clear h H
   rintro s20 a w o ⟨ρ, σ21, rfl, rfl, H, ht22, hn23⟩ h hres
   refine c_seq (rg (st (v := (B (decide (s20.2 < (xs13.length : Int))))) (rv_lss (a := s20.2) (b := (xs13.length : Int)) rfl rfl) (w_end (q_then (c_seq ?_)))))
   refine cd_cond (decide (s20.2 < (xs13.length : Int))) rfl (fun hb24 => ?_) (fun hb24 => ?_)
   ·replace h := bif_t hb24 h
    refine c_skip (q_then (c_seq (c_blk (c_seq (rg (sm (I s20.2) rfl (sa (I s20.2) rfl (w_end (q_then (rg (sm (Sl (some ⟨b15, 0, none⟩) s20.1 c16) rfl ?_)))))))))))
    refine sm (I s20.2) rfl (sm (I s20.2) rfl ?_)
    revert h; refine br fun x25 hx26 h => ?_
    obtain ⟨b28, o29, hi27, -⟩ := (H.own 4 rfl).ix hx26
    refine st (v := (pt b28 o29)) (rv_ix Tryz.underlying24 ti3 rfl rfl hi27) ?_
    refine st_exS (ex_store_own (e' := s20.2) (vs := [(I s20.2)]) (k := 0) H (i := 4) rfl ti3 hx26 hi27 rfl rfl rfl rfl rfl (Nat.le_of_ble_eq_true rfl) (by simp [plain]) (by rintro _ rfl; exact rfl)) wn ?_
    rintro σ30 ⟨H, -⟩
    have hsl : (Sl (some ⟨b15, 0, none⟩) s20.1 c16) = (Sl (some ⟨b15, 0, none⟩) (s20.1.set s20.2.toNat s20.2) c16) := sl_len List.length_set.symm
    rw [hsl]; rw [hsl] at H; clear hsl
    refine w_end (q_blk (q_then (rg (st (v := (I (w64 (s20.2 + 1)))) (rv_add (a := s20.2) (b := 1) rfl rfl) (sm (I (w64 (s20.2 + 1))) rfl (w_end (q_then ?_)))))))
    obtain rfl := sj h
    exact ⟨_, rfl, _, σ30, fr_join ⟨rfl, rfl, rfl, rfl, rfl, rfl, trivial⟩, rfl, H.sel' [1, 2, 3, 4, 0] rfl rfl, (ht22.trans List.length_set.symm), (List.length_set.trans hn23)⟩
   ·replace h := bif_f hb24 h
    refine c_exit (q_then_x (q_then_x (q_blk_hit ?_)))
    obtain rfl := sj h
    obtain rfl := hres _ rfl
    exact ⟨rfl, _, σ21, fr_join ⟨rfl, rfl, rfl, rfl, trivial⟩, rfl, H.sel' [0, 1, 2, 3, 4] rfl rfl, ht22, hn23⟩
  ·clear hj
   have h := h'
   clear h' H
   rintro e a w ⟨rfl, ρ, σ31, rfl, rfl, H, ht32, hn33⟩
   refine q_then (c_seq (rg (sm (Sl (some ⟨b15, 0, none⟩) o19 c16) rfl (st (v := (.func (.func 62) #[] #[(pt b1 0), (pt b3 0)])) (rv_makeFunc (vs := [(pt b1 0), (pt b3 0)]) rfl) ?_))))
   replace H := H.ownLow 4 0 0 rfl (Nat.zero_le _) (Nat.zero_le _)
   revert h; refine br fun r34 hx35 h => ?_
   have hc36 := c_slices_SortStableFunc_int_int__impl_ProbeOrder_1 (Ey := (some ⟨b15, 0, none⟩)) (Ez := c16) (Kc := n0) (Kd := b1) (Ke := 0) (Kf := []) (Kg := []) (Ka := Gc) (Kb := Gd) (Kj := n0) (Kk := b3) (Kl := 0) (Km := []) (Kn := []) (Kh := Ge) (Ki := Gf) hx35
   refine st_call (cx_call hc36 (ent_f hc36.fn rfl) hn0 (H.sel' [0, 2, 1, 4, 3, 1, 3] rfl rfl : Hp S0 σ0 _ ([_, _, _, _, _] ++ _))) wn ?_
   rintro _ σ38 ⟨_, ⟨rfl, rfl, hn37⟩, H, -⟩
   replace H : Hp _ _ _ [_, _, _, _, _] := H
   have hsl : (Sl (some ⟨b15, 0, none⟩) o19 c16) = (Sl (some ⟨b15, 0, none⟩) r34 c16) := sl_len hn37.symm
   try rw [hsl]
   try rw [hsl] at H
   clear hsl
   refine w_end (q_then (c_seq (rg (sm (Sl (some ⟨b15, 0, none⟩) r34 c16) rfl (sm (I Gb) rfl (sm (Sl (some ⟨b15, 0, none⟩) r34 c16) rfl (st (v := (I (r34.length : Int))) (rv_len Tryz.underlying24 rfl) (st (v := (I (min Gb (r34.length : Int)))) (rv_min rfl rfl) ?_))))))))
   revert h; refine br fun xs39 hx40 h => ?_
   obtain ⟨a41, c42, hs43, hR44, hb45⟩ := (H.own 0 rfl).slice hx40
   replace H := (H.front (i := 0) rfl).turn (d := Ch.own 0 0 (Sl a41 xs39 c42) xs39) (fun _ => hR44) hb45; clear hR44 hb45
   refine st (v := (Sl a41 xs39 c42)) (rv_slice_h Tryz.underlying24 ti3 hs43 rfl rfl) (sa (Sl a41 xs39 c42) rfl (w_end (q_then (c_ret ?_))))
   replace H := H.ownSc 0 0 n0 rfl (Nat.le_refl _)
   obtain rfl := sj h
   exact fin_ret (v := (Sl a41 xs39 c42)) (results_ok Tryz.results20 (res_tmp (v := (Sl a41 xs39 c42)) rfl res_nil) rfl) ⟨a41, c42, rfl, rfl⟩ (H.sel' [0] rfl rfl)

theorem c_impl_CentreOf {Fy : List (List Int)} {Ga : List Int} {Gc : Option Addr} {Gd : Nat} {Ge : Option Addr} {Gf : Nat} {r : Int} (h : M.impl_CentreOf Fy Ga = some r) :
    Cal2 Tryz.prog 22 [(Sl Gc Fy Gd), (Sl Ge Ga Gf)] [Ch.ro 0 (Sl Gc Fy Gd) Fy, Ch.ro 0 (Sl Ge Ga Gf) Ga] (fun n0 v L => v = (I r) ∧ L = []) := by
 refine cal2 (n := 35) Tryz.func22 rfl rfl rfl rfl ?_
 intro S0 σ0 n0 hn0 H
 unfold M.impl_CentreOf at h
 refine c_seq (rg (sa (I 0) rfl (w_end (q_then (c_seq (c_seq ?_))))))
 obtain ⟨o1, hj, h'⟩ := bind_some h
 clear h
 refine c_cut (fun e a w => e = .normal ∧ ∃ (ρ : Nat → Value) (σ : St), a = fr 35 (updL ρ [(0, (Sl Gc Fy Gd)), (1, (Sl Ge Ga Gf)), (17, (B o1))]) ∧ w = σ.w ∧ Hp S0 σ0 σ [Ch.ro 0 (Sl Gc Fy Gd) Fy, Ch.ro 0 (Sl Ge Ga Gf) Ga]) ?_ ?_
 ·clear h'
  rename _ = some o1 => h
  refine rg (sm (Sl Gc Fy Gd) rfl ?_)
  revert h; refine br fun r2 hx3 h => ?_
  have hc4 := c_impl_ValidCentres (Aj := Gc) (Ak := Gd) hx3
  refine st_call (cx_call hc4 (ent_f hc4.fn rfl) hn0 (H.sel' [0, 0, 1] rfl rfl : Hp S0 σ0 _ ([_] ++ _))) wn ?_
  rintro _ σ5 ⟨_, ⟨rfl, rfl⟩, H, -⟩
  replace H : Hp _ _ _ [_, _] := H
  refine st (v := (B (!r2))) (rv_not rfl) (sm (B (!r2)) rfl ?_)
  rcases Bool.eq_false_or_eq_true (!r2) with hb6 | hb6
  ·replace h := bif_t hb6 h
   refine st_skip (congrArg some hb6) (st_skip (congrArg some hb6) (st_skip (congrArg some hb6) (st (v := (B true)) (rv_pick_t (congrArg B hb6) rfl) (w_end ?_))))
   obtain rfl := sj h
   exact ⟨rfl, _, σ5, fr_join ⟨rfl, rfl, rfl, trivial⟩, rfl, H.sel' [0, 1] rfl rfl⟩
  ·replace h := bif_f hb6 h
   refine st_g (v := (Sl Ge Ga Gf)) (congrArg some hb6) (rv_move rfl) ?_
   revert h; refine br fun r7 hx8 h => ?_
   have hc9 := c_impl_ValidVector (Ar := Ge) (As := Gf) hx8
   refine st_call (cx_call hc9 (ent_f hc9.fn rfl) hn0 (H.sel' [1, 0, 1] rfl rfl : Hp S0 σ0 _ ([_] ++ _))) (wanted_yes rfl (by exact (congrArg some hb6))) ?_
   rintro _ σ10 ⟨_, ⟨rfl, rfl⟩, H, -⟩
   replace H : Hp _ _ _ [_, _] := H
   refine st_g (v := (B (!r7))) (congrArg some hb6) (rv_not rfl) (st (v := (B (!r7))) (rv_pick_f (congrArg B hb6) rfl) (w_end ?_))
   obtain rfl := sj h
   exact ⟨rfl, _, σ10, fr_join ⟨rfl, rfl, rfl, trivial⟩, rfl, H.sel' [0, 1] rfl rfl⟩
 ·clear hj
  have h := h'
  clear h' H
  rintro e a w ⟨rfl, ρ, σ11, rfl, rfl, H⟩
  refine q_then ?_
  refine cd_cond o1 rfl (fun hb12 => ?_) (fun hb12 => ?_)
  ·replace h := bif_t hb12 h
   refine c_seq (rg (sa (I (-1)) rfl (w_end (q_then (c_ret (q_then_r ?_))))))
   obtain rfl := sj h
   exact fin_ret (v := (I (-1))) (results_ok Tryz.results22 (res_tmp (v := (I (-1))) rfl res_nil) rfl) ⟨rfl, rfl⟩ (H.sel' [] rfl rfl)
  ·replace h := bif_f hb12 h
   refine c_skip (q_then (c_seq (rg (sa (I 0) rfl (sa (I 1000000) rfl (w_end (q_then (c_seq (c_seq (rg (sm (Sl Gc Fy Gd) rfl ?_)))))))))))
   refine st (v := (I (Fy.length : Int))) (rv_len Tryz.underlying37 rfl) (sm (I 0) rfl (w_end (q_then ?_)))
   obtain ⟨o13, hj, h'⟩ := bind_some h
   clear h
   refine c_cut (fun e a w => e = .normal ∧ ∃ (ρ : Nat → Value) (σ : St), a = fr 35 (updL ρ [(5, (I o13))]) ∧ w = σ.w ∧ Hp S0 σ0 σ []) ?_ ?_
   ·clear h'
    rename _ = some o13 => h
    refine c_blk (wp_loopM _ h (fun s14 a w => ∃ (ρ : Nat → Value) (σ : St), a = fr 35 (updL ρ [(1, (Sl Ge Ga Gf)), (5, (I s14.1)), (6, (I s14.2.1)), (18, (Sl Gc Fy Gd)), (19, (I (Fy.length : Int))), (20, (I s14.2.2))]) ∧ w = σ.w ∧ Hp S0 σ0 σ [Ch.ro 0 (Sl Ge Ga Gf) Ga, Ch.ro 0 (Sl Gc Fy Gd) Fy]) ⟨_, σ11, fr_join ⟨rfl, rfl, rfl, rfl, rfl, rfl, trivial⟩, rfl, H.sel' [1, 0] rfl rfl⟩ ?_)
    clear h H
    rintro s14 a w o ⟨ρ, σ15, rfl, rfl, H⟩ h hres
    refine c_seq (rg (st (v := (B (decide (s14.2.2 < (Fy.length : Int))))) (rv_lss (a := s14.2.2) (b := (Fy.length : Int)) rfl rfl) (w_end (q_then (c_seq ?_)))))
    refine cd_cond (decide (s14.2.2 < (Fy.length : Int))) rfl (fun hb16 => ?_) (fun hb16 => ?_)
    ·replace h := bif_t hb16 h
     refine c_skip (q_then (c_seq ?_))
     obtain ⟨o17, hj, h'⟩ := bind_some h
     clear h
     refine c_cut (fun e a w => e = .normal ∧ ∃ (ρ : Nat → Value) (σ : St), a = fr 35 (updL ρ [(1, (Sl Ge Ga Gf)), (5, (I o17.1)), (6, (I o17.2)), (18, (Sl Gc Fy Gd)), (19, (I (Fy.length : Int))), (20, (I s14.2.2))]) ∧ w = σ.w ∧ Hp S0 σ0 σ [Ch.ro 0 (Sl Ge Ga Gf) Ga, Ch.ro 0 (Sl Gc Fy Gd) Fy]) ?_ ?_
     ·clear h'
      rename _ = some o17 => h
      refine c_blk (c_seq (rg (sm (I s14.2.2) rfl ?_)))
      revert h; refine br fun x18 hx19 h => ?_
      obtain ⟨b21, o22, hi20, -⟩ := (H.ro 1 rfl).ix hx19
      refine st (v := (pt b21 o22)) (rv_ix Tryz.underlying37 ti24 rfl rfl hi20) ?_
      obtain ⟨v26, hc27, hR25⟩ := ((H.ro 1 rfl).at hx19 hi20).slice
      obtain ⟨a23, c24, rfl⟩ := hR25.isSl
      replace H := H.add (d := Ch.ro 0 (Sl a23 x18 c24) x18) hR25 (fun _ h => h)
      clear hR25
      refine st (v := (Sl a23 x18 c24)) (rv_load1 Tryz.underlying24 rfl rfl hc27) (sa (I s14.2.2) rfl (sa (Sl a23 x18 c24) rfl (w_end (q_then (c_seq (rg (sm (Sl a23 x18 c24) rfl (sm (Sl Ge Ga Gf) rfl ?_))))))))
      revert h; refine br fun r28 hx29 h => ?_
      have hc30 := c_impl_Distance (Bb := a23) (Bc := c24) (Bd := Ge) (Be := Gf) hx29
      refine st_call (cx_call hc30 (ent_f hc30.fn rfl) hn0 (H.sel' [0, 1, 0, 1, 2] rfl rfl : Hp S0 σ0 _ ([_, _] ++ _))) wn ?_
      rintro _ σ31 ⟨_, ⟨rfl, rfl⟩, H, -⟩
      replace H : Hp _ _ _ [_, _, _] := H
      refine sa (I r28) rfl (w_end (q_then (c_seq (rg (sm (I r28) rfl (sm (I s14.2.1) rfl (st (v := (B (decide (r28 < s14.2.1)))) (rv_lss (a := r28) (b := s14.2.1) rfl rfl) (w_end (q_then ?_)))))))))
      refine cd_cond (decide (r28 < s14.2.1)) rfl (fun hb32 => ?_) (fun hb32 => ?_)
      ·replace h := bif_t hb32 h
       refine rg (sm (I s14.2.2) rfl (sm (I r28) rfl (sa (I s14.2.2) rfl (sa (I r28) rfl (w_end (q_blk ?_))))))
       obtain rfl := sj h
       exact ⟨rfl, _, σ31, fr_join ⟨rfl, rfl, rfl, rfl, rfl, rfl, trivial⟩, rfl, H.sel' [1, 2] rfl rfl⟩
      ·replace h := bif_f hb32 h
       refine c_skip (q_blk ?_)
       obtain rfl := sj h
       exact ⟨rfl, _, σ31, fr_join ⟨rfl, rfl, rfl, rfl, rfl, rfl, trivial⟩, rfl, H.sel' [1, 2] rfl rfl⟩
     ·clear hj
      have h := h'
      clear h' H
      rintro e a w ⟨rfl, ρ, σ33, rfl, rfl, H⟩
      refine q_then (rg (st (v := (I (w64 (s14.2.2 + 1)))) (rv_add (a := s14.2.2) (b := 1) rfl rfl) (sm (I (w64 (s14.2.2 + 1))) rfl (w_end (q_then ?_)))))
      obtain rfl := sj h
      exact ⟨_, rfl, _, σ33, fr_join ⟨rfl, rfl, rfl, rfl, rfl, rfl, trivial⟩, rfl, H.sel' [0, 1] rfl rfl⟩
    ·replace h := bif_f hb16 h
     refine c_exit (q_then_x (q_then_x (q_blk_hit ?_)))
     obtain rfl := sj h
     obtain rfl := hres _ rfl
     exact ⟨rfl, _, σ15, fr_join ⟨rfl, trivial⟩, rfl, H.sel' [] rfl rfl⟩
   ·clear hj
    have h := h'
    clear h' H
    rintro e a w ⟨rfl, ρ, σ34, rfl, rfl, H⟩
    refine q_then (c_seq (rg (sm (I o13) rfl (sa (I o13) rfl (w_end (q_then (c_ret ?_)))))))
    obtain rfl := sj h
    exact fin_ret (v := (I o13)) (results_ok Tryz.results22 (res_tmp (v := (I o13)) rfl res_nil) rfl) ⟨rfl, rfl⟩ (H.sel' [] rfl rfl)

theorem c_impl_validClusters {Fy : List (List Int)} {Cq : List (Int × (List Int) × Int)} {Gc : Option Addr} {Gd : Nat} {Cr : Option Addr} {Cs : Nat} {r : Bool} (h : M.impl_validClusters Fy Cq = some r) :
    Cal2 Tryz.prog 149 [(Sl Gc Fy Gd), (Sl Cr Cq Cs)] [Ch.ro 0 (Sl Gc Fy Gd) Fy, Ch.ro 0 (Sl Cr Cq Cs) Cq] (fun n0 v L => v = (B r) ∧ L = []) := by
 refine cal2 (n := 11) Tryz.func149 rfl rfl rfl rfl ?_
 intro S0 σ0 n0 hn0 H
 unfold M.impl_validClusters at h
 refine c_seq (rg (sa (B false) rfl (w_end (q_then (c_seq (rg (sm (Sl Gc Fy Gd) rfl ?_)))))))
 revert h; refine br fun r1 hx2 h => ?_
 have hc3 := c_impl_ValidCentres (Aj := Gc) (Ak := Gd) hx2
 refine st_call (cx_call hc3 (ent_f hc3.fn rfl) hn0 (H.sel' [0, 0, 1] rfl rfl : Hp S0 σ0 _ ([_] ++ _))) wn ?_
 rintro _ σ4 ⟨_, ⟨rfl, rfl⟩, H, -⟩
 replace H : Hp _ _ _ [_, _] := H
 refine sm (B r1) rfl ?_
 rcases Bool.eq_false_or_eq_true r1 with hb5 | hb5
 ·replace h := bif_t hb5 h
  refine st_g (v := (Sl Cr Cq Cs)) (congrArg some hb5) (rv_move rfl) ?_
  revert h; refine br fun r6 hx7 h => ?_
  have hc8 := c_impl_ValidStore (Aj := Cr) (Ak := Cs) hx7
  refine st_call (cx_call hc8 (ent_f hc8.fn rfl) hn0 (H.sel' [1, 0, 1] rfl rfl : Hp S0 σ0 _ ([_] ++ _))) (wanted_yes rfl (by exact (congrArg some hb5))) ?_
  rintro _ σ9 ⟨_, ⟨rfl, rfl⟩, H, -⟩
  replace H : Hp _ _ _ [_, _] := H
  refine st (v := (B r6)) (rv_pick_t (congrArg B hb5) rfl) (sa (B r6) rfl (w_end (q_then (c_ret ?_))))
  obtain rfl := sj h
  exact fin_ret (v := (B r6)) (results_ok Tryz.results149 (res_tmp (v := (B r6)) rfl res_nil) rfl) ⟨rfl, rfl⟩ (H.sel' [] rfl rfl)
 ·replace h := bif_f hb5 h
  refine st_skip (congrArg some hb5) (st_skip (congrArg some hb5) (st (v := (B false)) (rv_pick_f (congrArg B hb5) rfl) (sa (B false) rfl (w_end (q_then (c_ret ?_))))))
  obtain rfl := sj h
  exact fin_ret (v := (B false)) (results_ok Tryz.results149 (res_tmp (v := (B false)) rfl res_nil) rfl) ⟨rfl, rfl⟩ (H.sel' [] rfl rfl)

theorem c_impl_AssignItems {Fy : List (List Int)} {Cq : List (Int × (List Int) × Int)} {Gc : Option Addr} {Gd : Nat} {Cr : Option Addr} {Cs : Nat} {r : (List Int)} (h : M.impl_AssignItems Fy Cq = some r) :
    Cal2 Tryz.prog 135 [(Sl Gc Fy Gd), (Sl Cr Cq Cs)] [Ch.ro 0 (Sl Gc Fy Gd) Fy, Ch.ro 0 (Sl Cr Cq Cs) Cq] (fun n0 v L => ∃ (az1 : Option Addr), ∃ (cz2 : Nat), v = (Sl az1 r cz2) ∧ L = [Ch.own n0 n0 (Sl az1 r cz2) r] ∧ cz2 = r.length) := by
 refine cal2 (n := 31) Tryz.func135 rfl rfl rfl rfl ?_
 intro S0 σ0 n0 hn0 H
 unfold M.impl_AssignItems at h
 refine c_seq (rg (sa (.slice none 0 0) rfl (w_end (q_then (c_seq (c_seq (rg (sm (Sl Gc Fy Gd) rfl (sm (Sl Cr Cq Cs) rfl ?_)))))))))
 revert h; refine br fun r1 hx2 h => ?_
 have hc3 := c_impl_validClusters (Gc := Gc) (Gd := Gd) (Cr := Cr) (Cs := Cs) hx2
 refine st_call (cx_call hc3 (ent_f hc3.fn rfl) hn0 (H.sel' [0, 1, 0, 1] rfl rfl : Hp S0 σ0 _ ([_, _] ++ _))) wn ?_
 rintro _ σ4 ⟨_, ⟨rfl, rfl⟩, H, -⟩
 replace H : Hp _ _ _ [_, _] := H
 refine st (v := (B (!r1))) (rv_not rfl) (w_end (q_then ?_))
 refine cd_cond (!r1) rfl (fun hb5 => ?_) (fun hb5 => ?_)
 ·replace h := bif_t hb5 h
  refine c_seq (rg (sa (.slice none 0 0) rfl (w_end (q_then (c_ret (q_then_r ?_))))))
  replace H := H.nilOwn Int n0 n0
  obtain rfl := sj h
  exact fin_ret (v := (.slice none 0 0)) (results_ok Tryz.results135 (res_tmp (v := (.slice none 0 0)) rfl res_nil) rfl) ⟨none, 0, rfl, rfl, rfl⟩ (H.sel' [0] rfl rfl)
 ·replace h := bif_f hb5 h
  refine c_skip (q_then (c_seq (rg (sm (Sl Cr Cq Cs) rfl (st (v := (I (Cq.length : Int))) (rv_len Tryz.underlying23 rfl) ?_)))))
  revert h; refine br fun xs6 hx7 h => ?_
  refine st_ex (ex_make (el := n0) (z0 := (0 : Int)) (zs := [(I 0)]) H hn0 Tryz.underlying24 ti3 rfl rfl rfl (by decide) hx7 rfl rfl) wn ?_
  rintro _ σ11 ⟨b8, c9, rfl, ht10, H, -⟩
  replace ht10 := ht10.trans (gmake_len hx7).symm
  refine sa (Sl (some ⟨b8, 0, none⟩) xs6 c9) rfl (w_end (q_then (c_seq (c_seq (rg (sm (Sl Cr Cq Cs) rfl (st (v := (I (Cq.length : Int))) (rv_len Tryz.underlying23 rfl) (sm (I 0) rfl (w_end (q_then ?_))))))))))
  obtain ⟨o12, hj, h'⟩ := bind_some h
  clear h
  refine c_cut (fun e a w => e = .normal ∧ ∃ (ρ : Nat → Value) (σ : St), a = fr 31 (updL ρ [(5, (Sl (some ⟨b8, 0, none⟩) o12 c9))]) ∧ w = σ.w ∧ Hp S0 σ0 σ [Ch.own n0 n0 (Sl (some ⟨b8, 0, none⟩) o12 c9) o12] ∧ c9 = o12.length ∧ o12.length = xs6.length) ?_ ?_
  ·clear h'
   rename _ = some o12 => h
   refine c_blk (wp_loopM _ h (fun s13 a w => ∃ (ρ : Nat → Value) (σ : St), a = fr 31 (updL ρ [(0, (Sl Gc Fy Gd)), (5, (Sl (some ⟨b8, 0, none⟩) s13.1 c9)), (15, (Sl Cr Cq Cs)), (16, (I (Cq.length : Int))), (17, (I s13.2))]) ∧ w = σ.w ∧ Hp S0 σ0 σ [Ch.ro 0 (Sl Gc Fy Gd) Fy, Ch.own n0 n0 (Sl (some ⟨b8, 0, none⟩) s13.1 c9) s13.1, Ch.ro 0 (Sl Cr Cq Cs) Cq] ∧ c9 = s13.1.length ∧ s13.1.length = xs6.length) ⟨_, σ11, fr_join ⟨rfl, rfl, rfl, rfl, rfl, trivial⟩, rfl, H.sel' [1, 0, 2] rfl rfl, ht10, rfl⟩ ?_)
   clear h H
   rintro s13 a w o ⟨ρ, σ14, rfl, rfl, H, ht15, hn16⟩ h hres
   refine c_seq (rg (st (v := (B (decide (s13.2 < (Cq.length : Int))))) (rv_lss (a := s13.2) (b := (Cq.length : Int)) rfl rfl) (w_end (q_then (c_seq ?_)))))
   refine cd_cond (decide (s13.2 < (Cq.length : Int))) rfl (fun hb17 => ?_) (fun hb17 => ?_)
   ·replace h := bif_t hb17 h
    refine c_skip (q_then (c_seq (c_blk (c_seq (rg (sm (I s13.2) rfl ?_))))))
    revert h; refine br fun x18 hx19 h => ?_
    obtain ⟨b21, o22, hi20, -⟩ := (H.ro 2 rfl).ix hx19
    refine st (v := (pt b21 o22)) (rv_ix Tryz.underlying23 ti33 rfl rfl hi20) ?_
    obtain ⟨_, ⟨_, _, rfl, rfl, ⟨_, _, rfl, ⟨_, rfl, hR27⟩, rfl⟩⟩, hl23, hc24⟩ := ((H.ro 2 rfl).at hx19 hi20).cells
    obtain ⟨a25, c26, rfl⟩ := hR27.isSl
    replace H := H.add (d := Ch.ro 0 (Sl a25 x18.2.1 c26) x18.2.1) hR27 (fun _ h => h)
    clear hR27
    refine st (v := (.agg #[(I x18.1), (Sl a25 x18.2.1 c26), (I x18.2.2)])) (rv_load Tryz.underlying33 rfl ti33 rfl hl23 hc24) (st_ex (ex_alloc (cs := [(I 0), (.slice none 0 0), (I 0)]) H hn0 ti33 rfl) wn ?_)
    rintro _ σ29 ⟨b28, rfl, H, -⟩
    refine sa (I s13.2) rfl ?_
    refine st_exS (ex_store_box (k := 0) (cs := [(I 0), (.slice none 0 0), (I 0)]) (vs := [(I x18.1), (Sl a25 x18.2.1 c26), (I x18.2.2)]) (cs' := [(I x18.1), (Sl a25 x18.2.1 c26), (I x18.2.2)]) H (i := 0) rfl ti33 rfl rfl rfl rfl rfl (Nat.le_of_ble_eq_true rfl) (by simp [plain]) rfl) wn ?_
    rintro σ30 ⟨H, -⟩
    refine w_end (q_then (rg (sm (Sl (some ⟨b8, 0, none⟩) s13.1 c9) rfl (sm (I s13.2) rfl (sm (Sl Gc Fy Gd) rfl (st (v := (pt b28 1)) (rv_fieldAddr (off := 1) (ft := 24) Tryz.underlying33 rfl ti24 rfl rfl) ?_))))))
    have hc31 := H.cell (u := (Sl a25 x18.2.1 c26)) (o' := 1) 0 1 rfl rfl rfl
    refine st (v := (Sl a25 x18.2.1 c26)) (rv_load1 Tryz.underlying24 rfl rfl hc31) ?_
    revert h; refine br fun r32 hx33 h => ?_
    have hc34 := c_impl_CentreOf (Gc := Gc) (Gd := Gd) (Ge := a25) (Gf := c26) hx33
    refine st_call (cx_call hc34 (ent_f hc34.fn rfl) hn0 (H.sel' [2, 1, 0, 1, 2, 3, 4] rfl rfl : Hp S0 σ0 _ ([_, _] ++ _))) wn ?_
    rintro _ σ35 ⟨_, ⟨rfl, rfl⟩, H, -⟩
    replace H : Hp _ _ _ [_, _, _, _, _] := H
    revert h; refine br fun x36 hx37 h => ?_
    obtain ⟨b39, o40, hi38, -⟩ := (H.own 3 rfl).ix hx37
    refine st (v := (pt b39 o40)) (rv_ix Tryz.underlying24 ti3 rfl rfl hi38) ?_
    refine st_exS (ex_store_own (e' := r32) (vs := [(I r32)]) (k := 0) H (i := 3) rfl ti3 hx37 hi38 rfl rfl rfl rfl rfl (Nat.le_of_ble_eq_true rfl) (by simp [plain]) (by rintro _ rfl; exact rfl)) wn ?_
    rintro σ41 ⟨H, -⟩
    have hsl : (Sl (some ⟨b8, 0, none⟩) s13.1 c9) = (Sl (some ⟨b8, 0, none⟩) (s13.1.set s13.2.toNat r32) c9) := sl_len List.length_set.symm
    rw [hsl]; rw [hsl] at H; clear hsl
    refine w_end (q_blk (q_then (rg (st (v := (I (w64 (s13.2 + 1)))) (rv_add (a := s13.2) (b := 1) rfl rfl) (sm (I (w64 (s13.2 + 1))) rfl (w_end (q_then ?_)))))))
    obtain rfl := sj h
    exact ⟨_, rfl, _, σ41, fr_join ⟨rfl, rfl, rfl, rfl, rfl, trivial⟩, rfl, H.sel' [3, 0, 4] rfl rfl, (ht15.trans List.length_set.symm), (List.length_set.trans hn16)⟩
   ·replace h := bif_f hb17 h
    refine c_exit (q_then_x (q_then_x (q_blk_hit ?_)))
    obtain rfl := sj h
    obtain rfl := hres _ rfl
    exact ⟨rfl, _, σ14, fr_join ⟨rfl, trivial⟩, rfl, H.sel' [1] rfl rfl, ht15, hn16⟩
  ·clear hj
   have h := h'
   clear h' H
   rintro e a w ⟨rfl, ρ, σ42, rfl, rfl, H, ht43, hn44⟩
   refine q_then (c_seq (rg (sm (Sl (some ⟨b8, 0, none⟩) o12 c9) rfl (sa (Sl (some ⟨b8, 0, none⟩) o12 c9) rfl (w_end (q_then (c_ret ?_)))))))
   obtain rfl := sj h
   exact fin_ret (v := (Sl (some ⟨b8, 0, none⟩) o12 c9)) (results_ok Tryz.results135 (res_tmp (v := (Sl (some ⟨b8, 0, none⟩) o12 c9)) rfl res_nil) rfl) ⟨(some ⟨b8, 0, none⟩), c9, rfl, rfl, ht43⟩ (H.sel' [0] rfl rfl)

end Go.Vs

/- The functions compute what their models say. -/
import Derived.Test.YtbnhppnkdmnneaaGreatKExactProbeNearestC4
set_option linter.unusedVariables false
set_option linter.unusedSimpArgs false
set_option maxRecDepth 20000
namespace Go.Vs
open Go Go.Proofs
attribute [local irreducible] Code.wp Code.wpIn wpList wpListIn wpQuiet Calls CallsIn

theorem c_slices_symMergeCmpFunc_int__impl_ProbeOrder_1 : ∀ (fuel : Nat) {Gk : List Int} {Bk : Int} {Hz : Int} {Ja : Int} {Hg : List (List Int)} {Hi : List Int} {Gn : Option Addr} {Gp : Nat} {Hj : Option Addr} {Hk : Nat} {Hl Hm Hn : Nat} {Ho Hq : List Value} {Hr : Option Addr} {Ht : Nat} {Hu Hv Hw : Nat} {Hx Hy : List Value} {r : (List Int)} (h : M.slices_symMergeCmpFunc_int__impl_ProbeOrder_1 fuel Gk Bk Hz Ja Hg Hi = some r),
    Cal2 Tryz.prog 128 [(Sl Gn Gk Gp), (I Bk), (I Hz), (I Ja), (.func (.func 95) #[] #[(pt Hm Hn), (pt Hv Hw)])] [Ch.own 0 0 (Sl Gn Gk Gp) Gk, Ch.bx Hl Hm Hn [(Sl Hj Hg Hk)] Ho Hq, Ch.ro 0 (Sl Hj Hg Hk) Hg, Ch.bx Hu Hv Hw [(Sl Hr Hi Ht)] Hx Hy, Ch.ro 0 (Sl Hr Hi Ht) Hi] (fun n0 v L => v = (.tuple #[]) ∧ L = [Ch.own 0 0 (Sl Gn r Gp) r, Ch.bx Hl Hm Hn [(Sl Hj Hg Hk)] Ho Hq, Ch.bx Hu Hv Hw [(Sl Hr Hi Ht)] Hx Hy] ∧ r.length = Gk.length) := by
 intro fuel
 induction fuel with
 | zero => intro _ _ _ _ _ _ _ _ _ _ _ _ _ _ _ _ _ _ _ _ _ _ r h; cases h
 | succ fuel ih =>
 ·intro Gk Bk Hz Ja Hg Hi Gn Gp Hj Hk Hl Hm Hn Ho Hq Hr Ht Hu Hv Hw Hx Hy r h
  replace h : M.slices_symMergeCmpFunc_int__impl_ProbeOrder_1_F (M.slices_symMergeCmpFunc_int__impl_ProbeOrder_1 fuel) Gk Bk Hz Ja Hg Hi = some r := h
  refine cal2 (n := 220) Tryz.func128 rfl rfl rfl rfl ?_
  intro S0 σ0 n0 hn0 H
  unfold M.slices_symMergeCmpFunc_int__impl_ProbeOrder_1_F at h
  refine c_seq (c_seq (rg (sm (I Hz) rfl (sm (I Bk) rfl (st (v := (I (w64 (Hz - Bk)))) (rv_sub (a := Hz) (b := Bk) rfl rfl) (st (v := (B ((w64 (Hz - Bk)) == 1))) (rv_eql (a := (w64 (Hz - Bk))) (b := 1) rfl rfl) (w_end (q_then ?_))))))))
  refine cd_cond ((w64 (Hz - Bk)) == 1) rfl (fun hb1 => ?_) (fun hb1 => ?_)
  ·replace h := bif_t hb1 h
   refine c_seq (rg (sm (I Hz) rfl (sa (I Hz) rfl (w_end (q_then (c_seq (rg (sm (I Ja) rfl (sa (I Ja) rfl (w_end (q_then ?_)))))))))))
   refine c_seq ?_
   obtain ⟨o2, hj, h'⟩ := bind_some h
   clear h
   refine c_cut (fun e a w => e = .normal ∧ ∃ (ρ : Nat → Value) (σ : St), a = fr 220 (updL ρ [(0, (Sl Gn Gk Gp)), (1, (I Bk)), (4, (.func (.func 95) #[] #[(pt Hm Hn), (pt Hv Hw)])), (10, (I o2))]) ∧ w = σ.w ∧ Hp S0 σ0 σ [Ch.own 0 0 (Sl Gn Gk Gp) Gk, Ch.ro 0 (Sl Hj Hg Hk) Hg, Ch.bx Hl Hm Hn [(Sl Hj Hg Hk)] Ho Hq, Ch.ro 0 (Sl Hr Hi Ht) Hi, Ch.bx Hu Hv Hw [(Sl Hr Hi Ht)] Hx Hy]) ?_ ?_
   ·clear h'
    rename _ = some o2 => h
    refine c_blk (wp_loopM _ h (fun s3 a w => ∃ (ρ : Nat → Value) (σ : St), a = fr 220 (updL ρ [(0, (Sl Gn Gk Gp)), (1, (I Bk)), (4, (.func (.func 95) #[] #[(pt Hm Hn), (pt Hv Hw)])), (10, (I s3.1)), (11, (I s3.2))]) ∧ w = σ.w ∧ Hp S0 σ0 σ [Ch.own 0 0 (Sl Gn Gk Gp) Gk, Ch.ro 0 (Sl Hj Hg Hk) Hg, Ch.bx Hl Hm Hn [(Sl Hj Hg Hk)] Ho Hq, Ch.ro 0 (Sl Hr Hi Ht) Hi, Ch.bx Hu Hv Hw [(Sl Hr Hi Ht)] Hx Hy]) ⟨_, σ0, fr_join ⟨rfl, rfl, rfl, rfl, rfl, trivial⟩, rfl, H.sel' [0, 2, 1, 4, 3] rfl rfl⟩ ?_)
    clear h H
    rintro s3 a w o ⟨ρ, σ4, rfl, rfl, H⟩ h hres
    refine c_seq (c_seq (rg (sm (I s3.1) rfl (sm (I s3.2) rfl (st (v := (B (decide (s3.1 < s3.2)))) (rv_lss (a := s3.1) (b := s3.2) rfl rfl) (w_end (q_then ?_)))))))
    refine cd_cond (decide (s3.1 < s3.2)) rfl (fun hb5 => ?_) (fun hb5 => ?_)
    ·replace h := bif_t hb5 h
     refine c_skip (q_then (c_blk (c_seq (rg (sm (I s3.1) rfl (sm (I s3.2) rfl (st (v := (I (w64 (s3.1 + s3.2)))) (rv_add (a := s3.1) (b := s3.2) rfl rfl) (st (v := (.int .u64 (wk .u64 (w64 (s3.1 + s3.2))))) (rvk_conv (k := .i64) (k' := .u64) (a := (w64 (s3.1 + s3.2))) Tryz.underlying3 Tryz.underlying135 rfl) ?_))))))))
     refine st (v := (.int .u64 (gshr .u64 (wk .u64 (w64 (s3.1 + s3.2))) 1))) (rvk_shr (k := .u64) (k' := .u64) (a := (wk .u64 (w64 (s3.1 + s3.2)))) (b := 1) rfl rfl (by decide)) ?_
     refine st (v := (I (wk .i64 (gshr .u64 (wk .u64 (w64 (s3.1 + s3.2))) 1)))) (rvk_conv (k := .u64) (k' := .i64) (a := (gshr .u64 (wk .u64 (w64 (s3.1 + s3.2))) 1)) Tryz.underlying135 Tryz.underlying3 rfl) (sa (I (wk .i64 (gshr .u64 (wk .u64 (w64 (s3.1 + s3.2))) 1))) rfl (w_end (q_then (c_seq ?_))))
     refine rgP (σ := σ4) 9 (by kernel_rfl) (by kernel_rfl) (by kernel_rfl) ?_
     refine sq (v := (.func (.func 95) #[] #[(pt Hm Hn), (pt Hv Hw)])) (rv_move rfl) (sq (v := (Sl Gn Gk Gp)) (rv_move rfl) (sq (v := (I (wk .i64 (gshr .u64 (wk .u64 (w64 (s3.1 + s3.2))) 1)))) (rv_move rfl) ?_))
     revert h; refine br fun x6 hx7 h => ?_
     obtain ⟨b9, o10, hi8, -⟩ := (H.own 0 rfl).ix hx7
     refine sq (v := (pt b9 o10)) (rv_ix Tryz.underlying23 ti3 rfl rfl hi8) ?_
     have hc11 := ((H.own 0 rfl).at hx7 hi8).int
     refine sq (v := (I x6)) (rv_load1 Tryz.underlying3 rfl rfl hc11) (sq (v := (Sl Gn Gk Gp)) (rv_move rfl) (sq (v := (I Bk)) (rv_move rfl) ?_))
     revert h; refine br fun x12 hx13 h => ?_
     obtain ⟨b15, o16, hi14, -⟩ := (H.own 0 rfl).ix hx13
     refine sq (v := (pt b15 o16)) (rv_ix Tryz.underlying23 ti3 rfl rfl hi14) ?_
     have hc17 := ((H.own 0 rfl).at hx13 hi14).int
     refine sq (v := (I x12)) (rv_load1 Tryz.underlying3 rfl rfl hc17) (sq_end ?_)
     intro σ18 hm19
     replace H := H.grow (hm19.mono fun _ h => h); clear hm19
     revert h; refine br fun r20 hx21 h => ?_
     have hc22 := c_impl_ProbeOrder_1__p_SSint__p24 (Fh := Hl) (Fi := Hm) (Fj := Hn) (Fk := Ho) (Fl := Hq) (Ff := Hj) (Fg := Hk) (Gf := Hu) (Gg := Hv) (Gh := Hw) (Gi := Hx) (Gj := Hy) (Gd := Hr) (Ge := Ht) hx21
     refine st_call (cx_call hc22 (ent_v (cap := [(pt Hm Hn), (pt Hv Hw)]) hc22.fn rfl rfl) hn0 (H.sel' [2, 1, 4, 3, 0, 1, 3] rfl rfl : Hp S0 σ0 _ ([_, _, _, _] ++ _))) wn ?_
     rintro _ σ23 ⟨_, ⟨rfl, rfl⟩, H, -⟩
     replace H : Hp _ _ _ [_, _, _, _, _] := H
     refine st (v := (B (decide (r20 < 0)))) (rv_lss (a := r20) (b := 0) rfl rfl) (w_end (q_then ?_))
     refine cd_cond (decide (r20 < 0)) rfl (fun hb24 => ?_) (fun hb24 => ?_)
     ·replace h := bif_t hb24 h
      refine rg (sm (I (wk .i64 (gshr .u64 (wk .u64 (w64 (s3.1 + s3.2))) 1))) rfl (st (v := (I (w64 ((wk .i64 (gshr .u64 (wk .u64 (w64 (s3.1 + s3.2))) 1)) + 1)))) (rv_add (a := (wk .i64 (gshr .u64 (wk .u64 (w64 (s3.1 + s3.2))) 1))) (b := 1) rfl rfl) (sa (I (w64 ((wk .i64 (gshr .u64 (wk .u64 (w64 (s3.1 + s3.2))) 1)) + 1))) rfl (w_end (q_blk (q_then ?_))))))
      obtain rfl := sj h
      exact ⟨_, rfl, _, σ23, fr_join ⟨rfl, rfl, rfl, rfl, rfl, trivial⟩, rfl, H.sel' [2, 3, 0, 4, 1] rfl rfl⟩
     ·replace h := bif_f hb24 h
      refine rg (sm (I (wk .i64 (gshr .u64 (wk .u64 (w64 (s3.1 + s3.2))) 1))) rfl (sa (I (wk .i64 (gshr .u64 (wk .u64 (w64 (s3.1 + s3.2))) 1))) rfl (w_end (q_blk (q_then ?_)))))
      obtain rfl := sj h
      exact ⟨_, rfl, _, σ23, fr_join ⟨rfl, rfl, rfl, rfl, rfl, trivial⟩, rfl, H.sel' [2, 3, 0, 4, 1] rfl rfl⟩
    ·replace h := bif_f hb5 h
     refine c_exit (q_then_x (q_then_x (q_blk_hit ?_)))
     obtain rfl := sj h
     obtain rfl := hres _ rfl
     exact ⟨rfl, _, σ4, fr_join ⟨rfl, rfl, rfl, rfl, trivial⟩, rfl, H.sel' [0, 1, 2, 3, 4] rfl rfl⟩
   ·clear hj
    have h := h'
    clear h' H
    rintro e a w ⟨rfl, ρ, σ25, rfl, rfl, H⟩
    refine q_then (c_seq (c_seq (rg (sm (I Bk) rfl (sa (I Bk) rfl (w_end (q_then ?_)))))))
    obtain ⟨o26, hj, h'⟩ := bind_some h
    clear h
    refine c_cut (fun e a w => e = .normal ∧ ∃ (ρ : Nat → Value) (σ : St), a = fr 220 (updL ρ [(0, (Sl Gn o26 Gp)), (4, (.func (.func 95) #[] #[(pt Hm Hn), (pt Hv Hw)]))]) ∧ w = σ.w ∧ Hp S0 σ0 σ [Ch.own 0 0 (Sl Gn o26 Gp) o26, Ch.ro 0 (Sl Hj Hg Hk) Hg, Ch.bx Hl Hm Hn [(Sl Hj Hg Hk)] Ho Hq, Ch.ro 0 (Sl Hr Hi Ht) Hi, Ch.bx Hu Hv Hw [(Sl Hr Hi Ht)] Hx Hy] ∧ o26.length = Gk.length) ?_ ?_
    ·clear h'
     rename _ = some o26 => h
     refine c_blk (wp_loopM _ h (fun s27 a w => ∃ (ρ : Nat → Value) (σ : St), a = fr 220 (updL ρ [(0, (Sl Gn s27.1 Gp)), (4, (.func (.func 95) #[] #[(pt Hm Hn), (pt Hv Hw)])), (10, (I o2)), (13, (I s27.2))]) ∧ w = σ.w ∧ Hp S0 σ0 σ [Ch.own 0 0 (Sl Gn s27.1 Gp) s27.1, Ch.ro 0 (Sl Hj Hg Hk) Hg, Ch.bx Hl Hm Hn [(Sl Hj Hg Hk)] Ho Hq, Ch.ro 0 (Sl Hr Hi Ht) Hi, Ch.bx Hu Hv Hw [(Sl Hr Hi Ht)] Hx Hy] ∧ s27.1.length = Gk.length) ⟨_, σ25, fr_join ⟨rfl, rfl, rfl, rfl, trivial⟩, rfl, H.sel' [0, 1, 2, 3, 4] rfl rfl, rfl⟩ ?_)
     clear h H
     rintro s27 a w o ⟨ρ, σ28, rfl, rfl, H, hn29⟩ h hres
     refine c_seq (c_seq (rg (sm (I s27.2) rfl (sm (I o2) rfl (st (v := (I (w64 (o2 - 1)))) (rv_sub (a := o2) (b := 1) rfl rfl) (st (v := (B (decide (s27.2 < (w64 (o2 - 1)))))) (rv_lss (a := s27.2) (b := (w64 (o2 - 1))) rfl rfl) (w_end (q_then ?_))))))))
     refine cd_cond (decide (s27.2 < (w64 (o2 - 1)))) rfl (fun hb30 => ?_) (fun hb30 => ?_)
     ·replace h := bif_t hb30 h
      refine c_skip (q_then (c_seq (c_blk ?_)))
      revert h; refine br fun x31 hx32 h => ?_
      obtain ⟨b34, o35, hi33, -⟩ := (H.own 0 rfl).ix hx32
      have hc36 := ((H.own 0 rfl).at hx32 hi33).int
      revert h; refine br fun x37 hx38 h => ?_
      obtain ⟨b40, o41, hi39, -⟩ := (H.own 0 rfl).ix hx38
      have hc42 := ((H.own 0 rfl).at hx38 hi39).int
      revert h; refine br fun x43 hx44 h => ?_
      obtain ⟨b46, o47, hi45, -⟩ := (H.own 0 rfl).ix hx44
      have Hs := H
      refine rg2 (σ := σ28) (Nm := Unit) 16 [15] [[false], [true]] [[(0, 0)], [(0, 0)], [(0, 0), (1, 1)], [(0, 0), (1, 1)], [(0, 0), (1, 1)], [(0, 0)], [(0, 0)], [(0, 0)], [(0, 0)], [(0, 0)], [(0, 0)], [(0, 0)], [(0, 0)], [(0, 0)], [(0, 0)], [(0, 1)]] 1 [fun _ => fun σm => Hp S0 σ0 σm [Ch.own 0 0 (Sl Gn s27.1 Gp) s27.1, Ch.ro 0 (Sl Hj Hg Hk) Hg, Ch.bx Hl Hm Hn [(Sl Hj Hg Hk)] Ho Hq, Ch.ro 0 (Sl Hr Hi Ht) Hi, Ch.bx Hu Hv Hw [(Sl Hr Hi Ht)] Hx Hy] ∧ Md (cov []) σ28 σm, fun _ => fun σm => Hp S0 σ0 σm [Ch.own 0 0 (Sl Gn s27.1 Gp) (s27.1.set s27.2.toNat x31), Ch.ro 0 (Sl Hj Hg Hk) Hg, Ch.bx Hl Hm Hn [(Sl Hj Hg Hk)] Ho Hq, Ch.ro 0 (Sl Hr Hi Ht) Hi, Ch.bx Hu Hv Hw [(Sl Hr Hi Ht)] Hx Hy] ∧ Md (fun i => (cov []) i ∨ (fun b => blk (Sl Gn s27.1 Gp) = some b) i) σ28 σm] [fun _ => (Sl Gn s27.1 Gp), fun _ => (I s27.2), fun _ => (Sl Gn s27.1 Gp), fun _ => (I s27.2), fun _ => (I (w64 (s27.2 + 1))), fun _ => (Sl Gn s27.1 Gp), fun _ => (I s27.2), fun _ => (I (w64 (s27.2 + 1))), fun _ => (pt b34 o35), fun _ => (I x31), fun _ => (Sl Gn s27.1 Gp), fun _ => (I s27.2), fun _ => (pt b40 o41), fun _ => (I x37), fun _ => (pt b46 o47), fun _ => undef] () (by kernel_rfl) (by kernel_rfl) ?_ ?_ ?_
      ·intro σm m0
       exact ⟨H.grow (m0.mono fun _ h => h.elim), m0⟩
      ·refine ac rfl (by
         intro k _nm ρ σm hJ hoff hdep
         have e0 := look_off (N := 220) (hoff 0 rfl) rfl
         exact dp_v (v := (Sl Gn s27.1 Gp)) wn (rv_move e0) rfl hJ) ?_
       refine ac rfl (by
         intro k _nm ρ σm hJ hoff hdep
         have e13 := look_off (N := 220) (hoff 13 rfl) rfl
         exact dp_v (v := (I s27.2)) wn (rv_move e13) rfl hJ) ?_
       refine ac rfl (by
         intro k _nm ρ σm hJ hoff hdep
         have e0 := look_off (N := 220) (hoff 0 rfl) rfl
         exact dp_v (v := (Sl Gn s27.1 Gp)) wn (rv_move e0) rfl hJ) ?_
       refine ac rfl (by
         intro k _nm ρ σm hJ hoff hdep
         have e13 := look_off (N := 220) (hoff 13 rfl) rfl
         exact dp_v (v := (I s27.2)) wn (rv_move e13) rfl hJ) ?_
       refine ac rfl (by
         intro k _nm ρ σm hJ hoff hdep
         have e64 := hdep 3 rfl rfl 64 rfl
         exact dp_v (v := (I (w64 (s27.2 + 1)))) wn (rv_add (a := s27.2) (b := 1) e64 rfl) rfl hJ) ?_
       refine ac rfl (by
         intro k _nm ρ σm hJ hoff hdep
         have e0 := look_off (N := 220) (hoff 0 rfl) rfl
         exact dp_v (v := (Sl Gn s27.1 Gp)) wn (rv_move e0) rfl hJ) ?_
       refine ac rfl (by
         intro k _nm ρ σm hJ hoff hdep
         have e13 := look_off (N := 220) (hoff 13 rfl) rfl
         exact dp_v (v := (I s27.2)) wn (rv_move e13) rfl hJ) ?_
       refine ac rfl (by
         intro k _nm ρ σm hJ hoff hdep
         have e67 := hdep 6 rfl rfl 67 rfl
         exact dp_v (v := (I (w64 (s27.2 + 1)))) wn (rv_add (a := s27.2) (b := 1) e67 rfl) rfl hJ) ?_
       refine ac rfl (by
         intro k _nm ρ σm hJ hoff hdep
         have e66 := hdep 5 rfl rfl 66 rfl
         have e68 := hdep 7 rfl rfl 68 rfl
         exact dp_v (v := (pt b34 o35)) wn (rv_ix Tryz.underlying23 ti3 e66 e68 hi33) rfl hJ) ?_
       refine all_cons (by
         refine ⟨?_, ?_⟩
         ·intro _nm ρ σm hJ hoff hdep
          have e69 := hdep 8 rfl rfl 69 rfl
          obtain ⟨H, m⟩ := id hJ
          have hc36 := ((H.own 0 rfl).at hx32 hi33).int
          exact dp_v (v := (I x31)) wn (rv_load1 Tryz.underlying3 rfl e69 hc36) rfl hJ
         trivial) ?_
       refine ac rfl (by
         intro k _nm ρ σm hJ hoff hdep
         have e0 := look_off (N := 220) (hoff 0 rfl) rfl
         exact dp_v (v := (Sl Gn s27.1 Gp)) wn (rv_move e0) rfl hJ) ?_
       refine ac rfl (by
         intro k _nm ρ σm hJ hoff hdep
         have e13 := look_off (N := 220) (hoff 13 rfl) rfl
         exact dp_v (v := (I s27.2)) wn (rv_move e13) rfl hJ) ?_
       refine ac rfl (by
         intro k _nm ρ σm hJ hoff hdep
         have e71 := hdep 10 rfl rfl 71 rfl
         have e72 := hdep 11 rfl rfl 72 rfl
         exact dp_v (v := (pt b40 o41)) wn (rv_ix Tryz.underlying23 ti3 e71 e72 hi39) rfl hJ) ?_
       refine all_cons (by
         refine ⟨?_, ?_⟩
         ·intro _nm ρ σm hJ hoff hdep
          have e73 := hdep 12 rfl rfl 73 rfl
          obtain ⟨H, m⟩ := id hJ
          have hc42 := ((H.own 0 rfl).at hx38 hi39).int
          exact dp_v (v := (I x37)) wn (rv_load1 Tryz.underlying3 rfl e73 hc42) rfl hJ
         trivial) ?_
       refine ac rfl (by
         intro k _nm ρ σm hJ hoff hdep
         have e61 := hdep 0 rfl rfl 61 rfl
         have e62 := hdep 1 rfl rfl 62 rfl
         exact dp_v (v := (pt b46 o47)) wn (rv_ix Tryz.underlying23 ti3 e61 e62 hi45) rfl hJ) ?_
       refine all_cons (by
         refine ⟨?_, ?_⟩
         ·intro _nm ρ σm hJ hoff hdep
          have e75 := hdep 14 rfl rfl 75 rfl
          have e70 := hdep 9 rfl rfl 70 rfl
          obtain ⟨H, m⟩ := id hJ
          refine dp_exS wn rfl (ex_store_own (e' := x31) (vs := [(I x31)]) (k := 0) H (i := 0) rfl ti3 hx44 hi45 e75 rfl e70 rfl rfl (Nat.le_of_ble_eq_true rfl) (by simp [plain]) (by rintro _ rfl; exact rfl)) ?_
          rintro σq ⟨H2, m2⟩
          exact ⟨_, (), rfl, ⟨H2.sel' [0, 1, 2, 3, 4] rfl rfl, m.comp m2⟩, stab [0, 1, 2, 3, 4, 5, 6, 7, 8, 9, 10, 11, 12, 13, 14] (by kernel_rfl) ⟨rfl, rfl, rfl, rfl, rfl, rfl, rfl, rfl, rfl, rfl, rfl, rfl, rfl, rfl, rfl, trivial⟩⟩
         trivial) ?_
       exact all_nil
      ·intro _nm ρ σ48 hJ hoff hrel
       have e0 := look_off (N := 220) (hoff 0 rfl) rfl
       have e4 := look_off (N := 220) (hoff 4 rfl) rfl
       have e10 := look_off (N := 220) (hoff 10 rfl) rfl
       have e13 := look_off (N := 220) (hoff 13 rfl) rfl
       have e63 := hrel 2 rfl 63 rfl
       have e65 := hrel 4 rfl 65 rfl
       have e74 := hrel 13 rfl 74 rfl
       obtain ⟨H, -⟩ := (show Hp S0 σ0 σ48 [Ch.own 0 0 (Sl Gn s27.1 Gp) (s27.1.set s27.2.toNat x31), Ch.ro 0 (Sl Hj Hg Hk) Hg, Ch.bx Hl Hm Hn [(Sl Hj Hg Hk)] Ho Hq, Ch.ro 0 (Sl Hr Hi Ht) Hi, Ch.bx Hu Hv Hw [(Sl Hr Hi Ht)] Hx Hy] ∧ Md (fun i => (cov []) i ∨ (fun b => blk (Sl Gn s27.1 Gp) = some b) i) σ28 σ48 from hJ)
       clear hJ Hs
       rw [fr_lookL (L := [(0, (Sl Gn s27.1 Gp)), (4, (.func (.func 95) #[] #[(pt Hm Hn), (pt Hv Hw)])), (10, (I o2)), (13, (I s27.2)), (63, (Sl Gn s27.1 Gp)), (65, (I (w64 (s27.2 + 1)))), (74, (I x37))]) ⟨e0, e4, e10, e13, e63, e65, e74, trivial⟩]
       clear hoff hrel e0 e4 e10 e13 e63 e65 e74
       have hsl : (Sl Gn s27.1 Gp) = (Sl Gn (s27.1.set s27.2.toNat x31) Gp) := sl_len (by simp)
       rw [hsl]; rw [hsl] at H; clear hsl
       revert h; refine br fun x49 hx50 h => ?_
       obtain ⟨b52, o53, hi51, -⟩ := (H.own 0 rfl).ix hx50
       refine st (v := (pt b52 o53)) (rv_ix Tryz.underlying23 ti3 rfl rfl hi51) ?_
       refine st_exS (ex_store_own (e' := x37) (vs := [(I x37)]) (k := 0) H (i := 0) rfl ti3 hx50 hi51 rfl rfl rfl rfl rfl (Nat.le_of_ble_eq_true rfl) (by simp [plain]) (by rintro _ rfl; exact rfl)) wn ?_
       rintro σ54 ⟨H, -⟩
       have hsl : (Sl Gn (s27.1.set s27.2.toNat x31) Gp) = (Sl Gn ((s27.1.set s27.2.toNat x31).set (w64 (s27.2 + 1)).toNat x37) Gp) := sl_len List.length_set.symm
       rw [hsl]; rw [hsl] at H; clear hsl
       refine w_end (q_blk (q_then (rg (sm (I s27.2) rfl (st (v := (I (w64 (s27.2 + 1)))) (rv_add (a := s27.2) (b := 1) rfl rfl) (sa (I (w64 (s27.2 + 1))) rfl (w_end (q_then ?_))))))))
       obtain rfl := sj h
       exact ⟨_, rfl, _, σ54, fr_join ⟨rfl, rfl, rfl, rfl, trivial⟩, rfl, H.sel' [0, 1, 2, 3, 4] rfl rfl, (List.length_set.trans (List.length_set.trans hn29))⟩
     ·replace h := bif_f hb30 h
      refine c_exit (q_then_x (q_then_x (q_blk_hit ?_)))
      obtain rfl := sj h
      obtain rfl := hres _ rfl
      exact ⟨rfl, _, σ28, fr_join ⟨rfl, rfl, trivial⟩, rfl, H.sel' [0, 1, 2, 3, 4] rfl rfl, hn29⟩
    ·clear hj
     have h := h'
     clear h' H
     rintro e a w ⟨rfl, ρ, σ55, rfl, rfl, H, hn56⟩
     refine q_then (c_ret (q_then_r ?_))
     obtain rfl := sj h
     exact fin_ret (v := (.tuple #[])) (results_ok Tryz.results128 res_nil rfl) ⟨rfl, rfl, hn56⟩ (H.sel' [0, 2, 4] rfl rfl)
  ·replace h := bif_f hb1 h
   refine c_skip (q_then (c_seq (c_seq (rg (sm (I Ja) rfl (sm (I Hz) rfl (st (v := (I (w64 (Ja - Hz)))) (rv_sub (a := Ja) (b := Hz) rfl rfl) (st (v := (B ((w64 (Ja - Hz)) == 1))) (rv_eql (a := (w64 (Ja - Hz))) (b := 1) rfl rfl) (w_end (q_then ?_))))))))))
   refine cd_cond ((w64 (Ja - Hz)) == 1) rfl (fun hb57 => ?_) (fun hb57 => ?_)
   ·replace h := bif_t hb57 h
    refine c_seq (rg (sm (I Bk) rfl (sa (I Bk) rfl (w_end (q_then (c_seq (rg (sm (I Hz) rfl (sa (I Hz) rfl (w_end (q_then ?_)))))))))))
    refine c_seq ?_
    obtain ⟨o58, hj, h'⟩ := bind_some h
    clear h
    refine c_cut (fun e a w => e = .normal ∧ ∃ (ρ : Nat → Value) (σ : St), a = fr 220 (updL ρ [(0, (Sl Gn Gk Gp)), (2, (I Hz)), (4, (.func (.func 95) #[] #[(pt Hm Hn), (pt Hv Hw)])), (14, (I o58))]) ∧ w = σ.w ∧ Hp S0 σ0 σ [Ch.own 0 0 (Sl Gn Gk Gp) Gk, Ch.ro 0 (Sl Hj Hg Hk) Hg, Ch.bx Hl Hm Hn [(Sl Hj Hg Hk)] Ho Hq, Ch.ro 0 (Sl Hr Hi Ht) Hi, Ch.bx Hu Hv Hw [(Sl Hr Hi Ht)] Hx Hy]) ?_ ?_
    ·clear h'
     rename _ = some o58 => h
     refine c_blk (wp_loopM _ h (fun s59 a w => ∃ (ρ : Nat → Value) (σ : St), a = fr 220 (updL ρ [(0, (Sl Gn Gk Gp)), (2, (I Hz)), (4, (.func (.func 95) #[] #[(pt Hm Hn), (pt Hv Hw)])), (14, (I s59.1)), (15, (I s59.2))]) ∧ w = σ.w ∧ Hp S0 σ0 σ [Ch.own 0 0 (Sl Gn Gk Gp) Gk, Ch.ro 0 (Sl Hj Hg Hk) Hg, Ch.bx Hl Hm Hn [(Sl Hj Hg Hk)] Ho Hq, Ch.ro 0 (Sl Hr Hi Ht) Hi, Ch.bx Hu Hv Hw [(Sl Hr Hi Ht)] Hx Hy]) ⟨_, σ0, fr_join ⟨rfl, rfl, rfl, rfl, rfl, trivial⟩, rfl, H.sel' [0, 2, 1, 4, 3] rfl rfl⟩ ?_)
     clear h H
     rintro s59 a w o ⟨ρ, σ60, rfl, rfl, H⟩ h hres
     refine c_seq (c_seq (rg (sm (I s59.1) rfl (sm (I s59.2) rfl (st (v := (B (decide (s59.1 < s59.2)))) (rv_lss (a := s59.1) (b := s59.2) rfl rfl) (w_end (q_then ?_)))))))
     refine cd_cond (decide (s59.1 < s59.2)) rfl (fun hb61 => ?_) (fun hb61 => ?_)
     ·replace h := bif_t hb61 h
      refine c_skip (q_then (c_blk (c_seq (rg (sm (I s59.1) rfl (sm (I s59.2) rfl (st (v := (I (w64 (s59.1 + s59.2)))) (rv_add (a := s59.1) (b := s59.2) rfl rfl) (st (v := (.int .u64 (wk .u64 (w64 (s59.1 + s59.2))))) (rvk_conv (k := .i64) (k' := .u64) (a := (w64 (s59.1 + s59.2))) Tryz.underlying3 Tryz.underlying135 rfl) ?_))))))))
      refine st (v := (.int .u64 (gshr .u64 (wk .u64 (w64 (s59.1 + s59.2))) 1))) (rvk_shr (k := .u64) (k' := .u64) (a := (wk .u64 (w64 (s59.1 + s59.2)))) (b := 1) rfl rfl (by decide)) ?_
      refine st (v := (I (wk .i64 (gshr .u64 (wk .u64 (w64 (s59.1 + s59.2))) 1)))) (rvk_conv (k := .u64) (k' := .i64) (a := (gshr .u64 (wk .u64 (w64 (s59.1 + s59.2))) 1)) Tryz.underlying135 Tryz.underlying3 rfl) (sa (I (wk .i64 (gshr .u64 (wk .u64 (w64 (s59.1 + s59.2))) 1))) rfl (w_end (q_then (c_seq ?_))))
      refine rgP (σ := σ60) 9 (by kernel_rfl) (by kernel_rfl) (by kernel_rfl) ?_
      refine sq (v := (.func (.func 95) #[] #[(pt Hm Hn), (pt Hv Hw)])) (rv_move rfl) (sq (v := (Sl Gn Gk Gp)) (rv_move rfl) (sq (v := (I Hz)) (rv_move rfl) ?_))
      revert h; refine br fun x62 hx63 h => ?_
      obtain ⟨b65, o66, hi64, -⟩ := (H.own 0 rfl).ix hx63
      refine sq (v := (pt b65 o66)) (rv_ix Tryz.underlying23 ti3 rfl rfl hi64) ?_
      have hc67 := ((H.own 0 rfl).at hx63 hi64).int
      refine sq (v := (I x62)) (rv_load1 Tryz.underlying3 rfl rfl hc67) (sq (v := (Sl Gn Gk Gp)) (rv_move rfl) (sq (v := (I (wk .i64 (gshr .u64 (wk .u64 (w64 (s59.1 + s59.2))) 1)))) (rv_move rfl) ?_))
      revert h; refine br fun x68 hx69 h => ?_
      obtain ⟨b71, o72, hi70, -⟩ := (H.own 0 rfl).ix hx69
      refine sq (v := (pt b71 o72)) (rv_ix Tryz.underlying23 ti3 rfl rfl hi70) ?_
      have hc73 := ((H.own 0 rfl).at hx69 hi70).int
      refine sq (v := (I x68)) (rv_load1 Tryz.underlying3 rfl rfl hc73) (sq_end ?_)
      intro σ74 hm75
      replace H := H.grow (hm75.mono fun _ h => h); clear hm75
      revert h; refine br fun r76 hx77 h => ?_
      have hc78 := c_impl_ProbeOrder_1__p_SSint__p24 (Fh := Hl) (Fi := Hm) (Fj := Hn) (Fk := Ho) (Fl := Hq) (Ff := Hj) (Fg := Hk) (Gf := Hu) (Gg := Hv) (Gh := Hw) (Gi := Hx) (Gj := Hy) (Gd := Hr) (Ge := Ht) hx77
      refine st_call (cx_call hc78 (ent_v (cap := [(pt Hm Hn), (pt Hv Hw)]) hc78.fn rfl rfl) hn0 (H.sel' [2, 1, 4, 3, 0, 1, 3] rfl rfl : Hp S0 σ0 _ ([_, _, _, _] ++ _))) wn ?_
      rintro _ σ79 ⟨_, ⟨rfl, rfl⟩, H, -⟩
      replace H : Hp _ _ _ [_, _, _, _, _] := H
      refine st (v := (B (decide (r76 < 0)))) (rv_lss (a := r76) (b := 0) rfl rfl) (st (v := (B (!(decide (r76 < 0))))) (rv_not rfl) (w_end (q_then ?_)))
      refine cd_cond (!(decide (r76 < 0))) rfl (fun hb80 => ?_) (fun hb80 => ?_)
      ·replace h := bif_t hb80 h
       refine rg (sm (I (wk .i64 (gshr .u64 (wk .u64 (w64 (s59.1 + s59.2))) 1))) rfl (st (v := (I (w64 ((wk .i64 (gshr .u64 (wk .u64 (w64 (s59.1 + s59.2))) 1)) + 1)))) (rv_add (a := (wk .i64 (gshr .u64 (wk .u64 (w64 (s59.1 + s59.2))) 1))) (b := 1) rfl rfl) (sa (I (w64 ((wk .i64 (gshr .u64 (wk .u64 (w64 (s59.1 + s59.2))) 1)) + 1))) rfl (w_end (q_blk (q_then ?_))))))
       obtain rfl := sj h
       exact ⟨_, rfl, _, σ79, fr_join ⟨rfl, rfl, rfl, rfl, rfl, trivial⟩, rfl, H.sel' [2, 3, 0, 4, 1] rfl rfl⟩
      ·replace h := bif_f hb80 h
       refine rg (sm (I (wk .i64 (gshr .u64 (wk .u64 (w64 (s59.1 + s59.2))) 1))) rfl (sa (I (wk .i64 (gshr .u64 (wk .u64 (w64 (s59.1 + s59.2))) 1))) rfl (w_end (q_blk (q_then ?_)))))
       obtain rfl := sj h
       exact ⟨_, rfl, _, σ79, fr_join ⟨rfl, rfl, rfl, rfl, rfl, trivial⟩, rfl, H.sel' [2, 3, 0, 4, 1] rfl rfl⟩
     ·replace h := bif_f hb61 h
      refine c_exit (q_then_x (q_then_x (q_blk_hit ?_)))
      obtain rfl := sj h
      obtain rfl := hres _ rfl
      exact ⟨rfl, _, σ60, fr_join ⟨rfl, rfl, rfl, rfl, trivial⟩, rfl, H.sel' [0, 1, 2, 3, 4] rfl rfl⟩
    ·clear hj
     have h := h'
     clear h' H
     rintro e a w ⟨rfl, ρ, σ81, rfl, rfl, H⟩
     refine q_then (c_seq (c_seq (rg (sm (I Hz) rfl (sa (I Hz) rfl (w_end (q_then ?_)))))))
     obtain ⟨o82, hj, h'⟩ := bind_some h
     clear h
     refine c_cut (fun e a w => e = .normal ∧ ∃ (ρ : Nat → Value) (σ : St), a = fr 220 (updL ρ [(0, (Sl Gn o82 Gp)), (4, (.func (.func 95) #[] #[(pt Hm Hn), (pt Hv Hw)]))]) ∧ w = σ.w ∧ Hp S0 σ0 σ [Ch.own 0 0 (Sl Gn o82 Gp) o82, Ch.ro 0 (Sl Hj Hg Hk) Hg, Ch.bx Hl Hm Hn [(Sl Hj Hg Hk)] Ho Hq, Ch.ro 0 (Sl Hr Hi Ht) Hi, Ch.bx Hu Hv Hw [(Sl Hr Hi Ht)] Hx Hy] ∧ o82.length = Gk.length) ?_ ?_
     ·clear h'
      rename _ = some o82 => h
      refine c_blk (wp_loopM _ h (fun s83 a w => ∃ (ρ : Nat → Value) (σ : St), a = fr 220 (updL ρ [(0, (Sl Gn s83.1 Gp)), (4, (.func (.func 95) #[] #[(pt Hm Hn), (pt Hv Hw)])), (14, (I o58)), (17, (I s83.2))]) ∧ w = σ.w ∧ Hp S0 σ0 σ [Ch.own 0 0 (Sl Gn s83.1 Gp) s83.1, Ch.ro 0 (Sl Hj Hg Hk) Hg, Ch.bx Hl Hm Hn [(Sl Hj Hg Hk)] Ho Hq, Ch.ro 0 (Sl Hr Hi Ht) Hi, Ch.bx Hu Hv Hw [(Sl Hr Hi Ht)] Hx Hy] ∧ s83.1.length = Gk.length) ⟨_, σ81, fr_join ⟨rfl, rfl, rfl, rfl, trivial⟩, rfl, H.sel' [0, 1, 2, 3, 4] rfl rfl, rfl⟩ ?_)
      clear h H
      rintro s83 a w o ⟨ρ, σ84, rfl, rfl, H, hn85⟩ h hres
      refine c_seq (c_seq (rg (sm (I s83.2) rfl (sm (I o58) rfl (st (v := (B (decide (o58 < s83.2)))) (rv_gtr (a := s83.2) (b := o58) rfl rfl) (w_end (q_then ?_)))))))
      refine cd_cond (decide (o58 < s83.2)) rfl (fun hb86 => ?_) (fun hb86 => ?_)
      ·replace h := bif_t hb86 h
       refine c_skip (q_then (c_seq (c_blk ?_)))
       revert h; refine br fun x87 hx88 h => ?_
       obtain ⟨b90, o91, hi89, -⟩ := (H.own 0 rfl).ix hx88
       have hc92 := ((H.own 0 rfl).at hx88 hi89).int
       revert h; refine br fun x93 hx94 h => ?_
       obtain ⟨b96, o97, hi95, -⟩ := (H.own 0 rfl).ix hx94
       have hc98 := ((H.own 0 rfl).at hx94 hi95).int
       revert h; refine br fun x99 hx100 h => ?_
       obtain ⟨b102, o103, hi101, -⟩ := (H.own 0 rfl).ix hx100
       have Hs := H
       refine rg2 (σ := σ84) (Nm := Unit) 16 [15] [[false], [true]] [[(0, 0)], [(0, 0)], [(0, 0), (1, 1)], [(0, 0), (1, 1)], [(0, 0), (1, 1)], [(0, 0)], [(0, 0)], [(0, 0)], [(0, 0)], [(0, 0)], [(0, 0)], [(0, 0)], [(0, 0)], [(0, 0)], [(0, 0)], [(0, 1)]] 1 [fun _ => fun σm => Hp S0 σ0 σm [Ch.own 0 0 (Sl Gn s83.1 Gp) s83.1, Ch.ro 0 (Sl Hj Hg Hk) Hg, Ch.bx Hl Hm Hn [(Sl Hj Hg Hk)] Ho Hq, Ch.ro 0 (Sl Hr Hi Ht) Hi, Ch.bx Hu Hv Hw [(Sl Hr Hi Ht)] Hx Hy] ∧ Md (cov []) σ84 σm, fun _ => fun σm => Hp S0 σ0 σm [Ch.own 0 0 (Sl Gn s83.1 Gp) (s83.1.set s83.2.toNat x87), Ch.ro 0 (Sl Hj Hg Hk) Hg, Ch.bx Hl Hm Hn [(Sl Hj Hg Hk)] Ho Hq, Ch.ro 0 (Sl Hr Hi Ht) Hi, Ch.bx Hu Hv Hw [(Sl Hr Hi Ht)] Hx Hy] ∧ Md (fun i => (cov []) i ∨ (fun b => blk (Sl Gn s83.1 Gp) = some b) i) σ84 σm] [fun _ => (Sl Gn s83.1 Gp), fun _ => (I s83.2), fun _ => (Sl Gn s83.1 Gp), fun _ => (I s83.2), fun _ => (I (w64 (s83.2 - 1))), fun _ => (Sl Gn s83.1 Gp), fun _ => (I s83.2), fun _ => (I (w64 (s83.2 - 1))), fun _ => (pt b90 o91), fun _ => (I x87), fun _ => (Sl Gn s83.1 Gp), fun _ => (I s83.2), fun _ => (pt b96 o97), fun _ => (I x93), fun _ => (pt b102 o103), fun _ => undef] () (by kernel_rfl) (by kernel_rfl) ?_ ?_ ?_
       ·intro σm m0
        exact ⟨H.grow (m0.mono fun _ h => h.elim), m0⟩
       ·refine ac rfl (by
          intro k _nm ρ σm hJ hoff hdep
          have e0 := look_off (N := 220) (hoff 0 rfl) rfl
          exact dp_v (v := (Sl Gn s83.1 Gp)) wn (rv_move e0) rfl hJ) ?_
        refine ac rfl (by
          intro k _nm ρ σm hJ hoff hdep
          have e17 := look_off (N := 220) (hoff 17 rfl) rfl
          exact dp_v (v := (I s83.2)) wn (rv_move e17) rfl hJ) ?_
        refine ac rfl (by
          intro k _nm ρ σm hJ hoff hdep
          have e0 := look_off (N := 220) (hoff 0 rfl) rfl
          exact dp_v (v := (Sl Gn s83.1 Gp)) wn (rv_move e0) rfl hJ) ?_
        refine ac rfl (by
          intro k _nm ρ σm hJ hoff hdep
          have e17 := look_off (N := 220) (hoff 17 rfl) rfl
          exact dp_v (v := (I s83.2)) wn (rv_move e17) rfl hJ) ?_
        refine ac rfl (by
          intro k _nm ρ σm hJ hoff hdep
          have e116 := hdep 3 rfl rfl 116 rfl
          exact dp_v (v := (I (w64 (s83.2 - 1)))) wn (rv_sub (a := s83.2) (b := 1) e116 rfl) rfl hJ) ?_
        refine ac rfl (by
          intro k _nm ρ σm hJ hoff hdep
          have e0 := look_off (N := 220) (hoff 0 rfl) rfl
          exact dp_v (v := (Sl Gn s83.1 Gp)) wn (rv_move e0) rfl hJ) ?_
        refine ac rfl (by
          intro k _nm ρ σm hJ hoff hdep
          have e17 := look_off (N := 220) (hoff 17 rfl) rfl
          exact dp_v (v := (I s83.2)) wn (rv_move e17) rfl hJ) ?_
        refine ac rfl (by
          intro k _nm ρ σm hJ hoff hdep
          have e119 := hdep 6 rfl rfl 119 rfl
          exact dp_v (v := (I (w64 (s83.2 - 1)))) wn (rv_sub (a := s83.2) (b := 1) e119 rfl) rfl hJ) ?_
        refine ac rfl (by
          intro k _nm ρ σm hJ hoff hdep
          have e118 := hdep 5 rfl rfl 118 rfl
          have e120 := hdep 7 rfl rfl 120 rfl
          exact dp_v (v := (pt b90 o91)) wn (rv_ix Tryz.underlying23 ti3 e118 e120 hi89) rfl hJ) ?_
        refine all_cons (by
          refine ⟨?_, ?_⟩
          ·intro _nm ρ σm hJ hoff hdep
           have e121 := hdep 8 rfl rfl 121 rfl
           obtain ⟨H, m⟩ := id hJ
           have hc92 := ((H.own 0 rfl).at hx88 hi89).int
           exact dp_v (v := (I x87)) wn (rv_load1 Tryz.underlying3 rfl e121 hc92) rfl hJ
          trivial) ?_
        refine ac rfl (by
          intro k _nm ρ σm hJ hoff hdep
          have e0 := look_off (N := 220) (hoff 0 rfl) rfl
          exact dp_v (v := (Sl Gn s83.1 Gp)) wn (rv_move e0) rfl hJ) ?_
        refine ac rfl (by
          intro k _nm ρ σm hJ hoff hdep
          have e17 := look_off (N := 220) (hoff 17 rfl) rfl
          exact dp_v (v := (I s83.2)) wn (rv_move e17) rfl hJ) ?_
        refine ac rfl (by
          intro k _nm ρ σm hJ hoff hdep
          have e123 := hdep 10 rfl rfl 123 rfl
          have e124 := hdep 11 rfl rfl 124 rfl
          exact dp_v (v := (pt b96 o97)) wn (rv_ix Tryz.underlying23 ti3 e123 e124 hi95) rfl hJ) ?_
        refine all_cons (by
          refine ⟨?_, ?_⟩
          ·intro _nm ρ σm hJ hoff hdep
           have e125 := hdep 12 rfl rfl 125 rfl
           obtain ⟨H, m⟩ := id hJ
           have hc98 := ((H.own 0 rfl).at hx94 hi95).int
           exact dp_v (v := (I x93)) wn (rv_load1 Tryz.underlying3 rfl e125 hc98) rfl hJ
          trivial) ?_
        refine ac rfl (by
          intro k _nm ρ σm hJ hoff hdep
          have e113 := hdep 0 rfl rfl 113 rfl
          have e114 := hdep 1 rfl rfl 114 rfl
          exact dp_v (v := (pt b102 o103)) wn (rv_ix Tryz.underlying23 ti3 e113 e114 hi101) rfl hJ) ?_
        refine all_cons (by
          refine ⟨?_, ?_⟩
          ·intro _nm ρ σm hJ hoff hdep
           have e127 := hdep 14 rfl rfl 127 rfl
           have e122 := hdep 9 rfl rfl 122 rfl
           obtain ⟨H, m⟩ := id hJ
           refine dp_exS wn rfl (ex_store_own (e' := x87) (vs := [(I x87)]) (k := 0) H (i := 0) rfl ti3 hx100 hi101 e127 rfl e122 rfl rfl (Nat.le_of_ble_eq_true rfl) (by simp [plain]) (by rintro _ rfl; exact rfl)) ?_
           rintro σq ⟨H2, m2⟩
           exact ⟨_, (), rfl, ⟨H2.sel' [0, 1, 2, 3, 4] rfl rfl, m.comp m2⟩, stab [0, 1, 2, 3, 4, 5, 6, 7, 8, 9, 10, 11, 12, 13, 14] (by kernel_rfl) ⟨rfl, rfl, rfl, rfl, rfl, rfl, rfl, rfl, rfl, rfl, rfl, rfl, rfl, rfl, rfl, trivial⟩⟩
          trivial) ?_
        exact all_nil
       ·intro _nm ρ σ104 hJ hoff hrel
        have e0 := look_off (N := 220) (hoff 0 rfl) rfl
        have e4 := look_off (N := 220) (hoff 4 rfl) rfl
        have e14 := look_off (N := 220) (hoff 14 rfl) rfl
        have e17 := look_off (N := 220) (hoff 17 rfl) rfl
        have e115 := hrel 2 rfl 115 rfl
        have e117 := hrel 4 rfl 117 rfl
        have e126 := hrel 13 rfl 126 rfl
        obtain ⟨H, -⟩ := (show Hp S0 σ0 σ104 [Ch.own 0 0 (Sl Gn s83.1 Gp) (s83.1.set s83.2.toNat x87), Ch.ro 0 (Sl Hj Hg Hk) Hg, Ch.bx Hl Hm Hn [(Sl Hj Hg Hk)] Ho Hq, Ch.ro 0 (Sl Hr Hi Ht) Hi, Ch.bx Hu Hv Hw [(Sl Hr Hi Ht)] Hx Hy] ∧ Md (fun i => (cov []) i ∨ (fun b => blk (Sl Gn s83.1 Gp) = some b) i) σ84 σ104 from hJ)
        clear hJ Hs
        rw [fr_lookL (L := [(0, (Sl Gn s83.1 Gp)), (4, (.func (.func 95) #[] #[(pt Hm Hn), (pt Hv Hw)])), (14, (I o58)), (17, (I s83.2)), (115, (Sl Gn s83.1 Gp)), (117, (I (w64 (s83.2 - 1)))), (126, (I x93))]) ⟨e0, e4, e14, e17, e115, e117, e126, trivial⟩]
        clear hoff hrel e0 e4 e14 e17 e115 e117 e126
        have hsl : (Sl Gn s83.1 Gp) = (Sl Gn (s83.1.set s83.2.toNat x87) Gp) := sl_len (by simp)
        rw [hsl]; rw [hsl] at H; clear hsl
        revert h; refine br fun x105 hx106 h => ?_
        obtain ⟨b108, o109, hi107, -⟩ := (H.own 0 rfl).ix hx106
        refine st (v := (pt b108 o109)) (rv_ix Tryz.underlying23 ti3 rfl rfl hi107) ?_
        refine st_exS (ex_store_own (e' := x93) (vs := [(I x93)]) (k := 0) H (i := 0) rfl ti3 hx106 hi107 rfl rfl rfl rfl rfl (Nat.le_of_ble_eq_true rfl) (by simp [plain]) (by rintro _ rfl; exact rfl)) wn ?_
        rintro σ110 ⟨H, -⟩
        have hsl : (Sl Gn (s83.1.set s83.2.toNat x87) Gp) = (Sl Gn ((s83.1.set s83.2.toNat x87).set (w64 (s83.2 - 1)).toNat x93) Gp) := sl_len List.length_set.symm
        rw [hsl]; rw [hsl] at H; clear hsl
        refine w_end (q_blk (q_then (rg (sm (I s83.2) rfl (st (v := (I (w64 (s83.2 - 1)))) (rv_sub (a := s83.2) (b := 1) rfl rfl) (sa (I (w64 (s83.2 - 1))) rfl (w_end (q_then ?_))))))))
        obtain rfl := sj h
        exact ⟨_, rfl, _, σ110, fr_join ⟨rfl, rfl, rfl, rfl, trivial⟩, rfl, H.sel' [0, 1, 2, 3, 4] rfl rfl, (List.length_set.trans (List.length_set.trans hn85))⟩
      ·replace h := bif_f hb86 h
       refine c_exit (q_then_x (q_then_x (q_blk_hit ?_)))
       obtain rfl := sj h
       obtain rfl := hres _ rfl
       exact ⟨rfl, _, σ84, fr_join ⟨rfl, rfl, trivial⟩, rfl, H.sel' [0, 1, 2, 3, 4] rfl rfl, hn85⟩
     ·clear hj
      have h := h'
      clear h' H
      rintro e a w ⟨rfl, ρ, σ111, rfl, rfl, H, hn112⟩
      refine q_then (c_ret (q_then_r ?_))
      obtain rfl := sj h
      exact fin_ret (v := (.tuple #[])) (results_ok Tryz.results128 res_nil rfl) ⟨rfl, rfl, hn112⟩ (H.sel' [0, 2, 4] rfl rfl)
   ·replace h := bif_f hb57 h
    refine c_skip (q_then (c_seq (rg (sm (I Bk) rfl (sm (I Ja) rfl (st (v := (I (w64 (Bk + Ja)))) (rv_add (a := Bk) (b := Ja) rfl rfl) (st (v := (.int .u64 (wk .u64 (w64 (Bk + Ja))))) (rvk_conv (k := .i64) (k' := .u64) (a := (w64 (Bk + Ja))) Tryz.underlying3 Tryz.underlying135 rfl) ?_)))))))
    refine st (v := (.int .u64 (gshr .u64 (wk .u64 (w64 (Bk + Ja))) 1))) (rvk_shr (k := .u64) (k' := .u64) (a := (wk .u64 (w64 (Bk + Ja)))) (b := 1) rfl rfl (by decide)) ?_
    refine st (v := (I (wk .i64 (gshr .u64 (wk .u64 (w64 (Bk + Ja))) 1)))) (rvk_conv (k := .u64) (k' := .i64) (a := (gshr .u64 (wk .u64 (w64 (Bk + Ja))) 1)) Tryz.underlying135 Tryz.underlying3 rfl) (sa (I (wk .i64 (gshr .u64 (wk .u64 (w64 (Bk + Ja))) 1))) rfl (w_end (q_then (c_seq (rg (sm (I (wk .i64 (gshr .u64 (wk .u64 (w64 (Bk + Ja))) 1))) rfl (sm (I Hz) rfl (st (v := (I (w64 ((wk .i64 (gshr .u64 (wk .u64 (w64 (Bk + Ja))) 1)) + Hz)))) (rv_add (a := (wk .i64 (gshr .u64 (wk .u64 (w64 (Bk + Ja))) 1))) (b := Hz) rfl rfl) (sa (I (w64 ((wk .i64 (gshr .u64 (wk .u64 (w64 (Bk + Ja))) 1)) + Hz))) rfl (w_end (q_then ?_)))))))))))
    refine c_seq (rg (sa (I 0) rfl (sa (I 0) rfl (w_end (q_then (c_seq (c_seq (rg (sm (I Hz) rfl (sm (I (wk .i64 (gshr .u64 (wk .u64 (w64 (Bk + Ja))) 1))) rfl (st (v := (B (decide ((wk .i64 (gshr .u64 (wk .u64 (w64 (Bk + Ja))) 1)) < Hz)))) (rv_gtr (a := Hz) (b := (wk .i64 (gshr .u64 (wk .u64 (w64 (Bk + Ja))) 1))) rfl rfl) ?_)))))))))))
    refine w_end (q_then ?_)
    obtain ⟨o113, hj, h'⟩ := bind_some h
    clear h
    refine c_cut (fun e a w => e = .normal ∧ ∃ (ρ : Nat → Value) (σ : St), a = fr 220 (updL ρ [(0, (Sl Gn Gk Gp)), (1, (I Bk)), (2, (I Hz)), (3, (I Ja)), (4, (.func (.func 95) #[] #[(pt Hm Hn), (pt Hv Hw)])), (18, (I (wk .i64 (gshr .u64 (wk .u64 (w64 (Bk + Ja))) 1)))), (19, (I (w64 ((wk .i64 (gshr .u64 (wk .u64 (w64 (Bk + Ja))) 1)) + Hz)))), (20, (I o113.1)), (21, (I o113.2))]) ∧ w = σ.w ∧ Hp S0 σ0 σ [Ch.own 0 0 (Sl Gn Gk Gp) Gk, Ch.ro 0 (Sl Hj Hg Hk) Hg, Ch.bx Hl Hm Hn [(Sl Hj Hg Hk)] Ho Hq, Ch.ro 0 (Sl Hr Hi Ht) Hi, Ch.bx Hu Hv Hw [(Sl Hr Hi Ht)] Hx Hy]) ?_ ?_
    ·clear h'
     rename _ = some o113 => h
     refine cd_cond (decide ((wk .i64 (gshr .u64 (wk .u64 (w64 (Bk + Ja))) 1)) < Hz)) rfl (fun hb114 => ?_) (fun hb114 => ?_)
     ·replace h := bif_t hb114 h
      refine c_seq (rg (sm (I (w64 ((wk .i64 (gshr .u64 (wk .u64 (w64 (Bk + Ja))) 1)) + Hz))) rfl (sm (I Ja) rfl (st (v := (I (w64 ((w64 ((wk .i64 (gshr .u64 (wk .u64 (w64 (Bk + Ja))) 1)) + Hz)) - Ja)))) (rv_sub (a := (w64 ((wk .i64 (gshr .u64 (wk .u64 (w64 (Bk + Ja))) 1)) + Hz))) (b := Ja) rfl rfl) (sa (I (w64 ((w64 ((wk .i64 (gshr .u64 (wk .u64 (w64 (Bk + Ja))) 1)) + Hz)) - Ja))) rfl (w_end (q_then (rg (sm (I (wk .i64 (gshr .u64 (wk .u64 (w64 (Bk + Ja))) 1))) rfl (sa (I (wk .i64 (gshr .u64 (wk .u64 (w64 (Bk + Ja))) 1))) rfl (w_end ?_)))))))))))
      obtain rfl := sj h
      exact ⟨rfl, _, σ0, fr_join ⟨rfl, rfl, rfl, rfl, rfl, rfl, rfl, rfl, rfl, trivial⟩, rfl, H.sel' [0, 2, 1, 4, 3] rfl rfl⟩
     ·replace h := bif_f hb114 h
      refine c_seq (rg (sm (I Bk) rfl (sa (I Bk) rfl (w_end (q_then (rg (sm (I Hz) rfl (sa (I Hz) rfl (w_end ?_)))))))))
      obtain rfl := sj h
      exact ⟨rfl, _, σ0, fr_join ⟨rfl, rfl, rfl, rfl, rfl, rfl, rfl, rfl, rfl, trivial⟩, rfl, H.sel' [0, 2, 1, 4, 3] rfl rfl⟩
    ·clear hj
     have h := h'
     clear h' H
     rintro e a w ⟨rfl, ρ, σ115, rfl, rfl, H⟩
     refine q_then (c_seq (rg (sm (I (w64 ((wk .i64 (gshr .u64 (wk .u64 (w64 (Bk + Ja))) 1)) + Hz))) rfl (st (v := (I (w64 ((w64 ((wk .i64 (gshr .u64 (wk .u64 (w64 (Bk + Ja))) 1)) + Hz)) - 1)))) (rv_sub (a := (w64 ((wk .i64 (gshr .u64 (wk .u64 (w64 (Bk + Ja))) 1)) + Hz))) (b := 1) rfl rfl) (sa (I (w64 ((w64 ((wk .i64 (gshr .u64 (wk .u64 (w64 (Bk + Ja))) 1)) + Hz)) - 1))) rfl (w_end (q_then (c_seq ?_))))))))
     obtain ⟨o116, hj, h'⟩ := bind_some h
     clear h
     refine c_cut (fun e a w => e = .normal ∧ ∃ (ρ : Nat → Value) (σ : St), a = fr 220 (updL ρ [(0, (Sl Gn Gk Gp)), (1, (I Bk)), (2, (I Hz)), (3, (I Ja)), (4, (.func (.func 95) #[] #[(pt Hm Hn), (pt Hv Hw)])), (18, (I (wk .i64 (gshr .u64 (wk .u64 (w64 (Bk + Ja))) 1)))), (19, (I (w64 ((wk .i64 (gshr .u64 (wk .u64 (w64 (Bk + Ja))) 1)) + Hz)))), (20, (I o116))]) ∧ w = σ.w ∧ Hp S0 σ0 σ [Ch.own 0 0 (Sl Gn Gk Gp) Gk, Ch.ro 0 (Sl Hj Hg Hk) Hg, Ch.bx Hl Hm Hn [(Sl Hj Hg Hk)] Ho Hq, Ch.ro 0 (Sl Hr Hi Ht) Hi, Ch.bx Hu Hv Hw [(Sl Hr Hi Ht)] Hx Hy]) ?_ ?_
     ·clear h'
      rename _ = some o116 => h
      refine c_blk (wp_loopM _ h (fun s117 a w => ∃ (ρ : Nat → Value) (σ : St), a = fr 220 (updL ρ [(0, (Sl Gn Gk Gp)), (1, (I Bk)), (2, (I Hz)), (3, (I Ja)), (4, (.func (.func 95) #[] #[(pt Hm Hn), (pt Hv Hw)])), (18, (I (wk .i64 (gshr .u64 (wk .u64 (w64 (Bk + Ja))) 1)))), (19, (I (w64 ((wk .i64 (gshr .u64 (wk .u64 (w64 (Bk + Ja))) 1)) + Hz)))), (20, (I s117.1)), (21, (I s117.2)), (22, (I (w64 ((w64 ((wk .i64 (gshr .u64 (wk .u64 (w64 (Bk + Ja))) 1)) + Hz)) - 1))))]) ∧ w = σ.w ∧ Hp S0 σ0 σ [Ch.own 0 0 (Sl Gn Gk Gp) Gk, Ch.ro 0 (Sl Hj Hg Hk) Hg, Ch.bx Hl Hm Hn [(Sl Hj Hg Hk)] Ho Hq, Ch.ro 0 (Sl Hr Hi Ht) Hi, Ch.bx Hu Hv Hw [(Sl Hr Hi Ht)] Hx Hy]) ⟨_, σ115, fr_join ⟨rfl, rfl, rfl, rfl, rfl, rfl, rfl, rfl, rfl, rfl, trivial⟩, rfl, H.sel' [0, 1, 2, 3, 4] rfl rfl⟩ ?_)
      clear h H
      rintro s117 a w o ⟨ρ, σ118, rfl, rfl, H⟩ h hres
      refine c_seq (c_seq (rg (sm (I s117.1) rfl (sm (I s117.2) rfl (st (v := (B (decide (s117.1 < s117.2)))) (rv_lss (a := s117.1) (b := s117.2) rfl rfl) (w_end (q_then ?_)))))))
      refine cd_cond (decide (s117.1 < s117.2)) rfl (fun hb119 => ?_) (fun hb119 => ?_)
      ·replace h := bif_t hb119 h
       refine c_skip (q_then (c_blk (c_seq (rg (sm (I s117.1) rfl (sm (I s117.2) rfl (st (v := (I (w64 (s117.1 + s117.2)))) (rv_add (a := s117.1) (b := s117.2) rfl rfl) (st (v := (.int .u64 (wk .u64 (w64 (s117.1 + s117.2))))) (rvk_conv (k := .i64) (k' := .u64) (a := (w64 (s117.1 + s117.2))) Tryz.underlying3 Tryz.underlying135 rfl) ?_))))))))
       refine st (v := (.int .u64 (gshr .u64 (wk .u64 (w64 (s117.1 + s117.2))) 1))) (rvk_shr (k := .u64) (k' := .u64) (a := (wk .u64 (w64 (s117.1 + s117.2)))) (b := 1) rfl rfl (by decide)) ?_
       refine st (v := (I (wk .i64 (gshr .u64 (wk .u64 (w64 (s117.1 + s117.2))) 1)))) (rvk_conv (k := .u64) (k' := .i64) (a := (gshr .u64 (wk .u64 (w64 (s117.1 + s117.2))) 1)) Tryz.underlying135 Tryz.underlying3 rfl) (sa (I (wk .i64 (gshr .u64 (wk .u64 (w64 (s117.1 + s117.2))) 1))) rfl (w_end (q_then (c_seq ?_))))
       refine rgP (σ := σ118) 11 (by kernel_rfl) (by kernel_rfl) (by kernel_rfl) ?_
       refine sq (v := (.func (.func 95) #[] #[(pt Hm Hn), (pt Hv Hw)])) (rv_move rfl) (sq (v := (Sl Gn Gk Gp)) (rv_move rfl) (sq (v := (I (w64 ((w64 ((wk .i64 (gshr .u64 (wk .u64 (w64 (Bk + Ja))) 1)) + Hz)) - 1)))) (rv_move rfl) (sq (v := (I (wk .i64 (gshr .u64 (wk .u64 (w64 (s117.1 + s117.2))) 1)))) (rv_move rfl) (sq (v := (I (w64 ((w64 ((w64 ((wk .i64 (gshr .u64 (wk .u64 (w64 (Bk + Ja))) 1)) + Hz)) - 1)) - (wk .i64 (gshr .u64 (wk .u64 (w64 (s117.1 + s117.2))) 1)))))) (rv_sub (a := (w64 ((w64 ((wk .i64 (gshr .u64 (wk .u64 (w64 (Bk + Ja))) 1)) + Hz)) - 1))) (b := (wk .i64 (gshr .u64 (wk .u64 (w64 (s117.1 + s117.2))) 1))) rfl rfl) ?_))))
       revert h; refine br fun x120 hx121 h => ?_
       obtain ⟨b123, o124, hi122, -⟩ := (H.own 0 rfl).ix hx121
       refine sq (v := (pt b123 o124)) (rv_ix Tryz.underlying23 ti3 rfl rfl hi122) ?_
       have hc125 := ((H.own 0 rfl).at hx121 hi122).int
       refine sq (v := (I x120)) (rv_load1 Tryz.underlying3 rfl rfl hc125) (sq (v := (Sl Gn Gk Gp)) (rv_move rfl) (sq (v := (I (wk .i64 (gshr .u64 (wk .u64 (w64 (s117.1 + s117.2))) 1)))) (rv_move rfl) ?_))
       revert h; refine br fun x126 hx127 h => ?_
       obtain ⟨b129, o130, hi128, -⟩ := (H.own 0 rfl).ix hx127
       refine sq (v := (pt b129 o130)) (rv_ix Tryz.underlying23 ti3 rfl rfl hi128) ?_
       have hc131 := ((H.own 0 rfl).at hx127 hi128).int
       refine sq (v := (I x126)) (rv_load1 Tryz.underlying3 rfl rfl hc131) (sq_end ?_)
       intro σ132 hm133
       replace H := H.grow (hm133.mono fun _ h => h); clear hm133
       revert h; refine br fun r134 hx135 h => ?_
       have hc136 := c_impl_ProbeOrder_1__p_SSint__p24 (Fh := Hl) (Fi := Hm) (Fj := Hn) (Fk := Ho) (Fl := Hq) (Ff := Hj) (Fg := Hk) (Gf := Hu) (Gg := Hv) (Gh := Hw) (Gi := Hx) (Gj := Hy) (Gd := Hr) (Ge := Ht) hx135
       refine st_call (cx_call hc136 (ent_v (cap := [(pt Hm Hn), (pt Hv Hw)]) hc136.fn rfl rfl) hn0 (H.sel' [2, 1, 4, 3, 0, 1, 3] rfl rfl : Hp S0 σ0 _ ([_, _, _, _] ++ _))) wn ?_
       rintro _ σ137 ⟨_, ⟨rfl, rfl⟩, H, -⟩
       replace H : Hp _ _ _ [_, _, _, _, _] := H
       refine st (v := (B (decide (r134 < 0)))) (rv_lss (a := r134) (b := 0) rfl rfl) (st (v := (B (!(decide (r134 < 0))))) (rv_not rfl) (w_end (q_then ?_)))
       refine cd_cond (!(decide (r134 < 0))) rfl (fun hb138 => ?_) (fun hb138 => ?_)
       ·replace h := bif_t hb138 h
        refine rg (sm (I (wk .i64 (gshr .u64 (wk .u64 (w64 (s117.1 + s117.2))) 1))) rfl (st (v := (I (w64 ((wk .i64 (gshr .u64 (wk .u64 (w64 (s117.1 + s117.2))) 1)) + 1)))) (rv_add (a := (wk .i64 (gshr .u64 (wk .u64 (w64 (s117.1 + s117.2))) 1))) (b := 1) rfl rfl) (sa (I (w64 ((wk .i64 (gshr .u64 (wk .u64 (w64 (s117.1 + s117.2))) 1)) + 1))) rfl (w_end (q_blk (q_then ?_))))))
        obtain rfl := sj h
        exact ⟨_, rfl, _, σ137, fr_join ⟨rfl, rfl, rfl, rfl, rfl, rfl, rfl, rfl, rfl, rfl, trivial⟩, rfl, H.sel' [2, 3, 0, 4, 1] rfl rfl⟩
       ·replace h := bif_f hb138 h
        refine rg (sm (I (wk .i64 (gshr .u64 (wk .u64 (w64 (s117.1 + s117.2))) 1))) rfl (sa (I (wk .i64 (gshr .u64 (wk .u64 (w64 (s117.1 + s117.2))) 1))) rfl (w_end (q_blk (q_then ?_)))))
        obtain rfl := sj h
        exact ⟨_, rfl, _, σ137, fr_join ⟨rfl, rfl, rfl, rfl, rfl, rfl, rfl, rfl, rfl, rfl, trivial⟩, rfl, H.sel' [2, 3, 0, 4, 1] rfl rfl⟩
      ·replace h := bif_f hb119 h
       refine c_exit (q_then_x (q_then_x (q_blk_hit ?_)))
       obtain rfl := sj h
       obtain rfl := hres _ rfl
       exact ⟨rfl, _, σ118, fr_join ⟨rfl, rfl, rfl, rfl, rfl, rfl, rfl, rfl, trivial⟩, rfl, H.sel' [0, 1, 2, 3, 4] rfl rfl⟩
     ·clear hj
      have h := h'
      clear h' H
      rintro e a w ⟨rfl, ρ, σ139, rfl, rfl, H⟩
      refine q_then (c_seq (rg (sm (I (w64 ((wk .i64 (gshr .u64 (wk .u64 (w64 (Bk + Ja))) 1)) + Hz))) rfl (sm (I o116) rfl (st (v := (I (w64 ((w64 ((wk .i64 (gshr .u64 (wk .u64 (w64 (Bk + Ja))) 1)) + Hz)) - o116)))) (rv_sub (a := (w64 ((wk .i64 (gshr .u64 (wk .u64 (w64 (Bk + Ja))) 1)) + Hz))) (b := o116) rfl rfl) (sa (I (w64 ((w64 ((wk .i64 (gshr .u64 (wk .u64 (w64 (Bk + Ja))) 1)) + Hz)) - o116))) rfl (w_end (q_then (c_seq (c_seq ?_))))))))))
      obtain ⟨o140, hj, h'⟩ := bind_some h
      clear h
      refine c_cut (fun e a w => e = .normal ∧ ∃ (ρ : Nat → Value) (σ : St), a = fr 220 (updL ρ [(0, (Sl Gn Gk Gp)), (1, (I Bk)), (2, (I Hz)), (3, (I Ja)), (4, (.func (.func 95) #[] #[(pt Hm Hn), (pt Hv Hw)])), (18, (I (wk .i64 (gshr .u64 (wk .u64 (w64 (Bk + Ja))) 1)))), (20, (I o116)), (24, (I (w64 ((w64 ((wk .i64 (gshr .u64 (wk .u64 (w64 (Bk + Ja))) 1)) + Hz)) - o116)))), (185, (B o140))]) ∧ w = σ.w ∧ Hp S0 σ0 σ [Ch.own 0 0 (Sl Gn Gk Gp) Gk, Ch.ro 0 (Sl Hj Hg Hk) Hg, Ch.bx Hl Hm Hn [(Sl Hj Hg Hk)] Ho Hq, Ch.ro 0 (Sl Hr Hi Ht) Hi, Ch.bx Hu Hv Hw [(Sl Hr Hi Ht)] Hx Hy]) ?_ ?_
      ·clear h'
       rename _ = some o140 => h
       refine rg (sm (I o116) rfl (sm (I Hz) rfl (st (v := (B (decide (o116 < Hz)))) (rv_lss (a := o116) (b := Hz) rfl rfl) (sm (B (decide (o116 < Hz))) rfl ?_))))
       rcases Bool.eq_false_or_eq_true (decide (o116 < Hz)) with hb141 | hb141
       ·replace h := bif_t hb141 h
        refine st_g (v := (I Hz)) (congrArg some hb141) (rv_move rfl) (st_g (v := (I (w64 ((w64 ((wk .i64 (gshr .u64 (wk .u64 (w64 (Bk + Ja))) 1)) + Hz)) - o116)))) (congrArg some hb141) (rv_move rfl) (st_g (v := (B (decide (Hz < (w64 ((w64 ((wk .i64 (gshr .u64 (wk .u64 (w64 (Bk + Ja))) 1)) + Hz)) - o116)))))) (congrArg some hb141) (rv_lss (a := Hz) (b := (w64 ((w64 ((wk .i64 (gshr .u64 (wk .u64 (w64 (Bk + Ja))) 1)) + Hz)) - o116))) rfl rfl) (st (v := (B (decide (Hz < (w64 ((w64 ((wk .i64 (gshr .u64 (wk .u64 (w64 (Bk + Ja))) 1)) + Hz)) - o116)))))) (rv_pick_t (congrArg B hb141) rfl) (w_end ?_))))
        obtain rfl := sj h
        exact ⟨rfl, _, σ139, fr_join ⟨rfl, rfl, rfl, rfl, rfl, rfl, rfl, rfl, rfl, trivial⟩, rfl, H.sel' [0, 1, 2, 3, 4] rfl rfl⟩
       ·replace h := bif_f hb141 h
        refine st_skip (congrArg some hb141) (st_skip (congrArg some hb141) (st_skip (congrArg some hb141) (st (v := (B false)) (rv_pick_f (congrArg B hb141) rfl) (w_end ?_))))
        obtain rfl := sj h
        exact ⟨rfl, _, σ139, fr_join ⟨rfl, rfl, rfl, rfl, rfl, rfl, rfl, rfl, rfl, trivial⟩, rfl, H.sel' [0, 1, 2, 3, 4] rfl rfl⟩
      ·clear hj
       have h := h'
       clear h' H
       rintro e a w ⟨rfl, ρ, σ142, rfl, rfl, H⟩
       refine q_then ?_
       obtain ⟨o143, hj, h'⟩ := bind_some h
       clear h
       refine c_cut (fun e a w => e = .normal ∧ ∃ (ρ : Nat → Value) (σ : St), a = fr 220 (updL ρ [(0, (Sl Gn o143 Gp)), (1, (I Bk)), (3, (I Ja)), (4, (.func (.func 95) #[] #[(pt Hm Hn), (pt Hv Hw)])), (18, (I (wk .i64 (gshr .u64 (wk .u64 (w64 (Bk + Ja))) 1)))), (20, (I o116)), (24, (I (w64 ((w64 ((wk .i64 (gshr .u64 (wk .u64 (w64 (Bk + Ja))) 1)) + Hz)) - o116))))]) ∧ w = σ.w ∧ Hp S0 σ0 σ [Ch.own 0 0 (Sl Gn o143 Gp) o143, Ch.ro 0 (Sl Hj Hg Hk) Hg, Ch.bx Hl Hm Hn [(Sl Hj Hg Hk)] Ho Hq, Ch.ro 0 (Sl Hr Hi Ht) Hi, Ch.bx Hu Hv Hw [(Sl Hr Hi Ht)] Hx Hy] ∧ o143.length = Gk.length) ?_ ?_
       ·clear h'
        rename _ = some o143 => h
        refine cd_cond o140 rfl (fun hb144 => ?_) (fun hb144 => ?_)
        ·replace h := bif_t hb144 h
         refine rg (sm (Sl Gn Gk Gp) rfl (sm (I o116) rfl (sm (I Hz) rfl (sm (I (w64 ((w64 ((wk .i64 (gshr .u64 (wk .u64 (w64 (Bk + Ja))) 1)) + Hz)) - o116))) rfl (sm (.func (.func 95) #[] #[(pt Hm Hn), (pt Hv Hw)]) rfl ?_)))))
         revert h; refine br fun r145 hx146 h => ?_
         have hc147 := c_slices_rotateCmpFunc_int__impl_ProbeOrder_1 (Gn := Gn) (Gp := Gp) (Hl := Hl) (Hm := Hm) (Hn := Hn) (Ho := Ho) (Hq := Hq) (Hj := Hj) (Hk := Hk) (Hu := Hu) (Hv := Hv) (Hw := Hw) (Hx := Hx) (Hy := Hy) (Hr := Hr) (Ht := Ht) hx146
         refine st_call (cx_call hc147 (ent_f hc147.fn rfl) hn0 (H.sel' [0, 2, 1, 4, 3, 1, 3] rfl rfl : Hp S0 σ0 _ ([_, _, _, _, _] ++ _))) wn ?_
         rintro _ σ149 ⟨_, ⟨rfl, rfl, hn148⟩, H, -⟩
         replace H : Hp _ _ _ [_, _, _, _, _] := H
         have hsl : (Sl Gn Gk Gp) = (Sl Gn r145 Gp) := sl_len hn148.symm
         try rw [hsl]
         try rw [hsl] at H
         clear hsl
         refine w_end ?_
         obtain rfl := sj h
         exact ⟨rfl, _, σ149, fr_join ⟨rfl, rfl, rfl, rfl, rfl, rfl, rfl, trivial⟩, rfl, H.sel' [0, 3, 1, 4, 2] rfl rfl, hn148⟩
        ·replace h := bif_f hb144 h
         refine c_skip ?_
         obtain rfl := sj h
         exact ⟨rfl, _, σ142, fr_join ⟨rfl, rfl, rfl, rfl, rfl, rfl, rfl, trivial⟩, rfl, H.sel' [0, 1, 2, 3, 4] rfl rfl, rfl⟩
       ·clear hj
        have h := h'
        clear h' H
        rintro e a w ⟨rfl, ρ, σ150, rfl, rfl, H, hn151⟩
        refine q_then (c_seq (c_seq ?_))
        obtain ⟨o152, hj, h'⟩ := bind_some h
        clear h
        refine c_cut (fun e a w => e = .normal ∧ ∃ (ρ : Nat → Value) (σ : St), a = fr 220 (updL ρ [(0, (Sl Gn o143 Gp)), (1, (I Bk)), (3, (I Ja)), (4, (.func (.func 95) #[] #[(pt Hm Hn), (pt Hv Hw)])), (18, (I (wk .i64 (gshr .u64 (wk .u64 (w64 (Bk + Ja))) 1)))), (20, (I o116)), (24, (I (w64 ((w64 ((wk .i64 (gshr .u64 (wk .u64 (w64 (Bk + Ja))) 1)) + Hz)) - o116)))), (199, (B o152))]) ∧ w = σ.w ∧ Hp S0 σ0 σ [Ch.own 0 0 (Sl Gn o143 Gp) o143, Ch.ro 0 (Sl Hj Hg Hk) Hg, Ch.bx Hl Hm Hn [(Sl Hj Hg Hk)] Ho Hq, Ch.ro 0 (Sl Hr Hi Ht) Hi, Ch.bx Hu Hv Hw [(Sl Hr Hi Ht)] Hx Hy]) ?_ ?_
        ·clear h'
         rename _ = some o152 => h
         refine rg (sm (I Bk) rfl (sm (I o116) rfl (st (v := (B (decide (Bk < o116)))) (rv_lss (a := Bk) (b := o116) rfl rfl) (sm (B (decide (Bk < o116))) rfl ?_))))
         rcases Bool.eq_false_or_eq_true (decide (Bk < o116)) with hb153 | hb153
         ·replace h := bif_t hb153 h
          refine st_g (v := (I o116)) (congrArg some hb153) (rv_move rfl) (st_g (v := (I (wk .i64 (gshr .u64 (wk .u64 (w64 (Bk + Ja))) 1)))) (congrArg some hb153) (rv_move rfl) (st_g (v := (B (decide (o116 < (wk .i64 (gshr .u64 (wk .u64 (w64 (Bk + Ja))) 1)))))) (congrArg some hb153) (rv_lss (a := o116) (b := (wk .i64 (gshr .u64 (wk .u64 (w64 (Bk + Ja))) 1))) rfl rfl) (st (v := (B (decide (o116 < (wk .i64 (gshr .u64 (wk .u64 (w64 (Bk + Ja))) 1)))))) (rv_pick_t (congrArg B hb153) rfl) (w_end ?_))))
          obtain rfl := sj h
          exact ⟨rfl, _, σ150, fr_join ⟨rfl, rfl, rfl, rfl, rfl, rfl, rfl, rfl, trivial⟩, rfl, H.sel' [0, 1, 2, 3, 4] rfl rfl⟩
         ·replace h := bif_f hb153 h
          refine st_skip (congrArg some hb153) (st_skip (congrArg some hb153) (st_skip (congrArg some hb153) (st (v := (B false)) (rv_pick_f (congrArg B hb153) rfl) (w_end ?_))))
          obtain rfl := sj h
          exact ⟨rfl, _, σ150, fr_join ⟨rfl, rfl, rfl, rfl, rfl, rfl, rfl, rfl, trivial⟩, rfl, H.sel' [0, 1, 2, 3, 4] rfl rfl⟩
        ·clear hj
         have h := h'
         clear h' H
         rintro e a w ⟨rfl, ρ, σ154, rfl, rfl, H⟩
         refine q_then ?_
         obtain ⟨o155, hj, h'⟩ := bind_some h
         clear h
         refine c_cut (fun e a w => e = .normal ∧ ∃ (ρ : Nat → Value) (σ : St), a = fr 220 (updL ρ [(0, (Sl Gn o155 Gp)), (3, (I Ja)), (4, (.func (.func 95) #[] #[(pt Hm Hn), (pt Hv Hw)])), (18, (I (wk .i64 (gshr .u64 (wk .u64 (w64 (Bk + Ja))) 1)))), (24, (I (w64 ((w64 ((wk .i64 (gshr .u64 (wk .u64 (w64 (Bk + Ja))) 1)) + Hz)) - o116))))]) ∧ w = σ.w ∧ Hp S0 σ0 σ [Ch.own 0 0 (Sl Gn o155 Gp) o155, Ch.ro 0 (Sl Hj Hg Hk) Hg, Ch.bx Hl Hm Hn [(Sl Hj Hg Hk)] Ho Hq, Ch.ro 0 (Sl Hr Hi Ht) Hi, Ch.bx Hu Hv Hw [(Sl Hr Hi Ht)] Hx Hy] ∧ o155.length = o143.length) ?_ ?_
         ·clear h'
          rename _ = some o155 => h
          refine cd_cond o152 rfl (fun hb156 => ?_) (fun hb156 => ?_)
          ·replace h := bif_t hb156 h
           refine rg (sm (Sl Gn o143 Gp) rfl (sm (I Bk) rfl (sm (I o116) rfl (sm (I (wk .i64 (gshr .u64 (wk .u64 (w64 (Bk + Ja))) 1))) rfl (sm (.func (.func 95) #[] #[(pt Hm Hn), (pt Hv Hw)]) rfl ?_)))))
           revert h; refine br fun r157 hx158 h => ?_
           have hc159 := ih (Gn := Gn) (Gp := Gp) (Hl := Hl) (Hm := Hm) (Hn := Hn) (Ho := Ho) (Hq := Hq) (Hj := Hj) (Hk := Hk) (Hu := Hu) (Hv := Hv) (Hw := Hw) (Hx := Hx) (Hy := Hy) (Hr := Hr) (Ht := Ht) hx158
           refine st_call (cx_call hc159 (ent_f hc159.fn rfl) hn0 (H.sel' [0, 2, 1, 4, 3, 1, 3] rfl rfl : Hp S0 σ0 _ ([_, _, _, _, _] ++ _))) wn ?_
           rintro _ σ161 ⟨_, ⟨rfl, rfl, hn160⟩, H, -⟩
           replace H : Hp _ _ _ [_, _, _, _, _] := H
           have hsl : (Sl Gn o143 Gp) = (Sl Gn r157 Gp) := sl_len hn160.symm
           try rw [hsl]
           try rw [hsl] at H
           clear hsl
           refine w_end ?_
           obtain rfl := sj h
           exact ⟨rfl, _, σ161, fr_join ⟨rfl, rfl, rfl, rfl, rfl, trivial⟩, rfl, H.sel' [0, 3, 1, 4, 2] rfl rfl, ((hn160.trans hn151).trans hn151.symm)⟩
          ·replace h := bif_f hb156 h
           refine c_skip ?_
           obtain rfl := sj h
           exact ⟨rfl, _, σ154, fr_join ⟨rfl, rfl, rfl, rfl, rfl, trivial⟩, rfl, H.sel' [0, 1, 2, 3, 4] rfl rfl, rfl⟩
         ·clear hj
          have h := h'
          clear h' H
          rintro e a w ⟨rfl, ρ, σ162, rfl, rfl, H, hn163⟩
          refine q_then (c_seq ?_)
          obtain ⟨o164, hj, h'⟩ := bind_some h
          clear h
          refine c_cut (fun e a w => e = .normal ∧ ∃ (ρ : Nat → Value) (σ : St), a = fr 220 (updL ρ [(0, (Sl Gn o155 Gp)), (3, (I Ja)), (4, (.func (.func 95) #[] #[(pt Hm Hn), (pt Hv Hw)])), (18, (I (wk .i64 (gshr .u64 (wk .u64 (w64 (Bk + Ja))) 1)))), (24, (I (w64 ((w64 ((wk .i64 (gshr .u64 (wk .u64 (w64 (Bk + Ja))) 1)) + Hz)) - o116)))), (213, (B o164))]) ∧ w = σ.w ∧ Hp S0 σ0 σ [Ch.own 0 0 (Sl Gn o155 Gp) o155, Ch.ro 0 (Sl Hj Hg Hk) Hg, Ch.bx Hl Hm Hn [(Sl Hj Hg Hk)] Ho Hq, Ch.ro 0 (Sl Hr Hi Ht) Hi, Ch.bx Hu Hv Hw [(Sl Hr Hi Ht)] Hx Hy]) ?_ ?_
          ·clear h'
           rename _ = some o164 => h
           refine rg (sm (I (wk .i64 (gshr .u64 (wk .u64 (w64 (Bk + Ja))) 1))) rfl (sm (I (w64 ((w64 ((wk .i64 (gshr .u64 (wk .u64 (w64 (Bk + Ja))) 1)) + Hz)) - o116))) rfl (st (v := (B (decide ((wk .i64 (gshr .u64 (wk .u64 (w64 (Bk + Ja))) 1)) < (w64 ((w64 ((wk .i64 (gshr .u64 (wk .u64 (w64 (Bk + Ja))) 1)) + Hz)) - o116)))))) (rv_lss (a := (wk .i64 (gshr .u64 (wk .u64 (w64 (Bk + Ja))) 1))) (b := (w64 ((w64 ((wk .i64 (gshr .u64 (wk .u64 (w64 (Bk + Ja))) 1)) + Hz)) - o116))) rfl rfl) (sm (B (decide ((wk .i64 (gshr .u64 (wk .u64 (w64 (Bk + Ja))) 1)) < (w64 ((w64 ((wk .i64 (gshr .u64 (wk .u64 (w64 (Bk + Ja))) 1)) + Hz)) - o116))))) rfl ?_))))
           rcases Bool.eq_false_or_eq_true (decide ((wk .i64 (gshr .u64 (wk .u64 (w64 (Bk + Ja))) 1)) < (w64 ((w64 ((wk .i64 (gshr .u64 (wk .u64 (w64 (Bk + Ja))) 1)) + Hz)) - o116)))) with hb165 | hb165
           ·replace h := bif_t hb165 h
            refine st_g (v := (I (w64 ((w64 ((wk .i64 (gshr .u64 (wk .u64 (w64 (Bk + Ja))) 1)) + Hz)) - o116)))) (congrArg some hb165) (rv_move rfl) (st_g (v := (I Ja)) (congrArg some hb165) (rv_move rfl) (st_g (v := (B (decide ((w64 ((w64 ((wk .i64 (gshr .u64 (wk .u64 (w64 (Bk + Ja))) 1)) + Hz)) - o116)) < Ja)))) (congrArg some hb165) (rv_lss (a := (w64 ((w64 ((wk .i64 (gshr .u64 (wk .u64 (w64 (Bk + Ja))) 1)) + Hz)) - o116))) (b := Ja) rfl rfl) (st (v := (B (decide ((w64 ((w64 ((wk .i64 (gshr .u64 (wk .u64 (w64 (Bk + Ja))) 1)) + Hz)) - o116)) < Ja)))) (rv_pick_t (congrArg B hb165) rfl) (w_end ?_))))
            obtain rfl := sj h
            exact ⟨rfl, _, σ162, fr_join ⟨rfl, rfl, rfl, rfl, rfl, rfl, trivial⟩, rfl, H.sel' [0, 1, 2, 3, 4] rfl rfl⟩
           ·replace h := bif_f hb165 h
            refine st_skip (congrArg some hb165) (st_skip (congrArg some hb165) (st_skip (congrArg some hb165) (st (v := (B false)) (rv_pick_f (congrArg B hb165) rfl) (w_end ?_))))
            obtain rfl := sj h
            exact ⟨rfl, _, σ162, fr_join ⟨rfl, rfl, rfl, rfl, rfl, rfl, trivial⟩, rfl, H.sel' [0, 1, 2, 3, 4] rfl rfl⟩
          ·clear hj
           have h := h'
           clear h' H
           rintro e a w ⟨rfl, ρ, σ166, rfl, rfl, H⟩
           refine q_then ?_
           refine cd_cond o164 rfl (fun hb167 => ?_) (fun hb167 => ?_)
           ·replace h := bif_t hb167 h
            refine rg (sm (Sl Gn o155 Gp) rfl (sm (I (wk .i64 (gshr .u64 (wk .u64 (w64 (Bk + Ja))) 1))) rfl (sm (I (w64 ((w64 ((wk .i64 (gshr .u64 (wk .u64 (w64 (Bk + Ja))) 1)) + Hz)) - o116))) rfl (sm (I Ja) rfl (sm (.func (.func 95) #[] #[(pt Hm Hn), (pt Hv Hw)]) rfl ?_)))))
            revert h; refine br fun r168 hx169 h => ?_
            have hc170 := ih (Gn := Gn) (Gp := Gp) (Hl := Hl) (Hm := Hm) (Hn := Hn) (Ho := Ho) (Hq := Hq) (Hj := Hj) (Hk := Hk) (Hu := Hu) (Hv := Hv) (Hw := Hw) (Hx := Hx) (Hy := Hy) (Hr := Hr) (Ht := Ht) hx169
            refine st_call (cx_call hc170 (ent_f hc170.fn rfl) hn0 (H.sel' [0, 2, 1, 4, 3, 1, 3] rfl rfl : Hp S0 σ0 _ ([_, _, _, _, _] ++ _))) wn ?_
            rintro _ σ172 ⟨_, ⟨rfl, rfl, hn171⟩, H, -⟩
            replace H : Hp _ _ _ [_, _, _, _, _] := H
            have hsl : (Sl Gn o155 Gp) = (Sl Gn r168 Gp) := sl_len hn171.symm
            try rw [hsl]
            try rw [hsl] at H
            clear hsl
            refine w_end ?_
            obtain rfl := sj h
            exact fin_end (v := (.tuple #[])) (results_ok Tryz.results128 res_nil rfl) ⟨rfl, rfl, (hn171.trans (hn163.trans hn151))⟩ (H.sel' [0, 1, 2] rfl rfl)
           ·replace h := bif_f hb167 h
            refine c_skip ?_
            obtain rfl := sj h
            exact fin_end (v := (.tuple #[])) (results_ok Tryz.results128 res_nil rfl) ⟨rfl, rfl, (hn163.trans hn151)⟩ (H.sel' [0, 2, 4] rfl rfl)

theorem c_slices_stableCmpFunc_int__impl_ProbeOrder_1 {Gk : List Int} {By : Int} {Jb : List (List Int)} {Jc : List Int} {Gn : Option Addr} {Gp : Nat} {Jd : Option Addr} {Je : Nat} {Jf Jg Jh : Nat} {Ji Jj : List Value} {Jk : Option Addr} {Jm : Nat} {Jn Jo Jp : Nat} {Jq Jr : List Value} {r : (List Int)} (h : M.slices_stableCmpFunc_int__impl_ProbeOrder_1 Gk By Jb Jc = some r) :
    Cal2 Tryz.prog 108 [(Sl Gn Gk Gp), (I By), (.func (.func 95) #[] #[(pt Jg Jh), (pt Jo Jp)])] [Ch.own 0 0 (Sl Gn Gk Gp) Gk, Ch.bx Jf Jg Jh [(Sl Jd Jb Je)] Ji Jj, Ch.ro 0 (Sl Jd Jb Je) Jb, Ch.bx Jn Jo Jp [(Sl Jk Jc Jm)] Jq Jr, Ch.ro 0 (Sl Jk Jc Jm) Jc] (fun n0 v L => v = (.tuple #[]) ∧ L = [Ch.own 0 0 (Sl Gn r Gp) r, Ch.bx Jf Jg Jh [(Sl Jd Jb Je)] Ji Jj, Ch.bx Jn Jo Jp [(Sl Jk Jc Jm)] Jq Jr] ∧ r.length = Gk.length) := by
 refine cal2 (n := 63) Tryz.func108 rfl rfl rfl rfl ?_
 intro S0 σ0 n0 hn0 H
 unfold M.slices_stableCmpFunc_int__impl_ProbeOrder_1 at h
 refine c_seq (rg (sa (I 20) rfl (w_end (q_then (c_seq (rg (sm (I 20) rfl (sa (I 0) rfl (sa (I 20) rfl (w_end (q_then ?_)))))))))))
 refine c_seq ?_
 obtain ⟨o1, hj, h'⟩ := bind_some h
 clear h
 refine c_cut (fun e a w => e = .normal ∧ ∃ (ρ : Nat → Value) (σ : St), a = fr 63 (updL ρ [(0, (Sl Gn o1.1 Gp)), (1, (I By)), (2, (.func (.func 95) #[] #[(pt Jg Jh), (pt Jo Jp)])), (6, (I 20)), (7, (I o1.2))]) ∧ w = σ.w ∧ Hp S0 σ0 σ [Ch.own 0 0 (Sl Gn o1.1 Gp) o1.1, Ch.ro 0 (Sl Jd Jb Je) Jb, Ch.bx Jf Jg Jh [(Sl Jd Jb Je)] Ji Jj, Ch.ro 0 (Sl Jk Jc Jm) Jc, Ch.bx Jn Jo Jp [(Sl Jk Jc Jm)] Jq Jr] ∧ o1.1.length = Gk.length) ?_ ?_
 ·clear h'
  rename _ = some o1 => h
  refine c_blk (wp_loopM _ h (fun s2 a w => ∃ (ρ : Nat → Value) (σ : St), a = fr 63 (updL ρ [(0, (Sl Gn s2.1 Gp)), (1, (I By)), (2, (.func (.func 95) #[] #[(pt Jg Jh), (pt Jo Jp)])), (6, (I 20)), (7, (I s2.2.1)), (8, (I s2.2.2))]) ∧ w = σ.w ∧ Hp S0 σ0 σ [Ch.own 0 0 (Sl Gn s2.1 Gp) s2.1, Ch.ro 0 (Sl Jd Jb Je) Jb, Ch.bx Jf Jg Jh [(Sl Jd Jb Je)] Ji Jj, Ch.ro 0 (Sl Jk Jc Jm) Jc, Ch.bx Jn Jo Jp [(Sl Jk Jc Jm)] Jq Jr] ∧ s2.1.length = Gk.length) ⟨_, σ0, fr_join ⟨rfl, rfl, rfl, rfl, rfl, rfl, trivial⟩, rfl, H.sel' [0, 2, 1, 4, 3] rfl rfl, rfl⟩ ?_)
  clear h H
  rintro s2 a w o ⟨ρ, σ3, rfl, rfl, H, hn4⟩ h hres
  refine c_seq (c_seq (rg (sm (I s2.2.2) rfl (sm (I By) rfl (st (v := (B (decide (s2.2.2 ≤ By)))) (rv_leq (a := s2.2.2) (b := By) rfl rfl) (w_end (q_then ?_)))))))
  refine cd_cond (decide (s2.2.2 ≤ By)) rfl (fun hb5 => ?_) (fun hb5 => ?_)
  ·replace h := bif_t hb5 h
   refine c_skip (q_then (c_blk (c_seq (rg (sm (Sl Gn s2.1 Gp) rfl (sm (I s2.2.1) rfl (sm (I s2.2.2) rfl (sm (.func (.func 95) #[] #[(pt Jg Jh), (pt Jo Jp)]) rfl ?_))))))))
   revert h; refine br fun r6 hx7 h => ?_
   have hc8 := c_slices_insertionSortCmpFunc_int__impl_ProbeOrder_1 (Gn := Gn) (Gp := Gp) (Gs := Jf) (Gt := Jg) (Gu := Jh) (Gv := Ji) (Gw := Jj) (Gq := Jd) (Gr := Je) (Gz := Jn) (Ha := Jo) (Hc := Jp) (Hd := Jq) (He := Jr) (Gx := Jk) (Gy := Jm) hx7
   refine st_call (cx_call hc8 (ent_f hc8.fn rfl) hn0 (H.sel' [0, 2, 1, 4, 3, 1, 3] rfl rfl : Hp S0 σ0 _ ([_, _, _, _, _] ++ _))) wn ?_
   rintro _ σ10 ⟨_, ⟨rfl, rfl, hn9⟩, H, -⟩
   replace H : Hp _ _ _ [_, _, _, _, _] := H
   have hsl : (Sl Gn s2.1 Gp) = (Sl Gn r6 Gp) := sl_len hn9.symm
   try rw [hsl]
   try rw [hsl] at H
   clear hsl
   refine w_end (q_then (c_seq (rg (sm (I s2.2.2) rfl (sa (I s2.2.2) rfl (w_end (q_then (rg (sm (I s2.2.2) rfl (sm (I 20) rfl (st (v := (I (w64 (s2.2.2 + 20)))) (rv_add (a := s2.2.2) (b := 20) rfl rfl) ?_)))))))))))
   refine sa (I (w64 (s2.2.2 + 20))) rfl (w_end (q_blk (q_then ?_)))
   obtain rfl := sj h
   exact ⟨_, rfl, _, σ10, fr_join ⟨rfl, rfl, rfl, rfl, rfl, rfl, trivial⟩, rfl, H.sel' [0, 3, 1, 4, 2] rfl rfl, (hn9.trans hn4)⟩
  ·replace h := bif_f hb5 h
   refine c_exit (q_then_x (q_then_x (q_blk_hit ?_)))
   obtain rfl := sj h
   obtain rfl := hres _ rfl
   exact ⟨rfl, _, σ3, fr_join ⟨rfl, rfl, rfl, rfl, rfl, trivial⟩, rfl, H.sel' [0, 1, 2, 3, 4] rfl rfl, hn4⟩
 ·clear hj
  have h := h'
  clear h' H
  rintro e a w ⟨rfl, ρ, σ11, rfl, rfl, H, hn12⟩
  refine q_then (c_seq (rg (sm (Sl Gn o1.1 Gp) rfl (sm (I o1.2) rfl (sm (I By) rfl (sm (.func (.func 95) #[] #[(pt Jg Jh), (pt Jo Jp)]) rfl ?_))))))
  revert h; refine br fun r13 hx14 h => ?_
  have hc15 := c_slices_insertionSortCmpFunc_int__impl_ProbeOrder_1 (Gn := Gn) (Gp := Gp) (Gs := Jf) (Gt := Jg) (Gu := Jh) (Gv := Ji) (Gw := Jj) (Gq := Jd) (Gr := Je) (Gz := Jn) (Ha := Jo) (Hc := Jp) (Hd := Jq) (He := Jr) (Gx := Jk) (Gy := Jm) hx14
  refine st_call (cx_call hc15 (ent_f hc15.fn rfl) hn0 (H.sel' [0, 2, 1, 4, 3, 1, 3] rfl rfl : Hp S0 σ0 _ ([_, _, _, _, _] ++ _))) wn ?_
  rintro _ σ17 ⟨_, ⟨rfl, rfl, hn16⟩, H, -⟩
  replace H : Hp _ _ _ [_, _, _, _, _] := H
  have hsl : (Sl Gn o1.1 Gp) = (Sl Gn r13 Gp) := sl_len hn16.symm
  try rw [hsl]
  try rw [hsl] at H
  clear hsl
  refine w_end (q_then ?_)
  obtain ⟨o18, hj, h'⟩ := bind_some h
  clear h
  refine c_cut (fun e a w => e = .normal ∧ ∃ (ρ : Nat → Value) (σ : St), a = fr 63 (updL ρ [(0, (Sl Gn o18 Gp)), (2, (.func (.func 95) #[] #[(pt Jg Jh), (pt Jo Jp)]))]) ∧ w = σ.w ∧ Hp S0 σ0 σ [Ch.own 0 0 (Sl Gn o18 Gp) o18, Ch.ro 0 (Sl Jd Jb Je) Jb, Ch.bx Jf Jg Jh [(Sl Jd Jb Je)] Ji Jj, Ch.ro 0 (Sl Jk Jc Jm) Jc, Ch.bx Jn Jo Jp [(Sl Jk Jc Jm)] Jq Jr] ∧ o18.length = r13.length) ?_ ?_
  ·clear h'
   rename _ = some o18 => h
   refine c_blk (wp_loopM _ h (fun s19 a w => ∃ (ρ : Nat → Value) (σ : St), a = fr 63 (updL ρ [(0, (Sl Gn s19.1 Gp)), (1, (I By)), (2, (.func (.func 95) #[] #[(pt Jg Jh), (pt Jo Jp)])), (6, (I s19.2))]) ∧ w = σ.w ∧ Hp S0 σ0 σ [Ch.own 0 0 (Sl Gn s19.1 Gp) s19.1, Ch.ro 0 (Sl Jd Jb Je) Jb, Ch.bx Jf Jg Jh [(Sl Jd Jb Je)] Ji Jj, Ch.ro 0 (Sl Jk Jc Jm) Jc, Ch.bx Jn Jo Jp [(Sl Jk Jc Jm)] Jq Jr] ∧ s19.1.length = r13.length) ⟨_, σ17, fr_join ⟨rfl, rfl, rfl, rfl, trivial⟩, rfl, H.sel' [0, 3, 1, 4, 2] rfl rfl, rfl⟩ ?_)
   clear h H
   rintro s19 a w o ⟨ρ, σ20, rfl, rfl, H, hn21⟩ h hres
   refine c_seq (c_seq (rg (sm (I s19.2) rfl (sm (I By) rfl (st (v := (B (decide (s19.2 < By)))) (rv_lss (a := s19.2) (b := By) rfl rfl) (w_end (q_then ?_)))))))
   refine cd_cond (decide (s19.2 < By)) rfl (fun hb22 => ?_) (fun hb22 => ?_)
   ·replace h := bif_t hb22 h
    refine c_skip (q_then (c_blk (c_seq (rg (sm (I s19.2) rfl (st (v := (I (w64 (2 * s19.2)))) (rv_mul (a := 2) (b := s19.2) rfl rfl) (sa (I 0) rfl (sa (I (w64 (2 * s19.2))) rfl (w_end (q_then (c_seq ?_)))))))))))
    obtain ⟨o23, hj, h'⟩ := bind_some h
    clear h
    refine c_cut (fun e a w => e = .normal ∧ ∃ (ρ : Nat → Value) (σ : St), a = fr 63 (updL ρ [(0, (Sl Gn o23.1 Gp)), (1, (I By)), (2, (.func (.func 95) #[] #[(pt Jg Jh), (pt Jo Jp)])), (6, (I s19.2)), (7, (I o23.2))]) ∧ w = σ.w ∧ Hp S0 σ0 σ [Ch.own 0 0 (Sl Gn o23.1 Gp) o23.1, Ch.ro 0 (Sl Jd Jb Je) Jb, Ch.bx Jf Jg Jh [(Sl Jd Jb Je)] Ji Jj, Ch.ro 0 (Sl Jk Jc Jm) Jc, Ch.bx Jn Jo Jp [(Sl Jk Jc Jm)] Jq Jr] ∧ o23.1.length = s19.1.length) ?_ ?_
    ·clear h'
     rename _ = some o23 => h
     refine c_blk (wp_loopM _ h (fun s24 a w => ∃ (ρ : Nat → Value) (σ : St), a = fr 63 (updL ρ [(0, (Sl Gn s24.1 Gp)), (1, (I By)), (2, (.func (.func 95) #[] #[(pt Jg Jh), (pt Jo Jp)])), (6, (I s19.2)), (7, (I s24.2.1)), (8, (I s24.2.2))]) ∧ w = σ.w ∧ Hp S0 σ0 σ [Ch.own 0 0 (Sl Gn s24.1 Gp) s24.1, Ch.ro 0 (Sl Jd Jb Je) Jb, Ch.bx Jf Jg Jh [(Sl Jd Jb Je)] Ji Jj, Ch.ro 0 (Sl Jk Jc Jm) Jc, Ch.bx Jn Jo Jp [(Sl Jk Jc Jm)] Jq Jr] ∧ s24.1.length = s19.1.length) ⟨_, σ20, fr_join ⟨rfl, rfl, rfl, rfl, rfl, rfl, trivial⟩, rfl, H.sel' [0, 1, 2, 3, 4] rfl rfl, rfl⟩ ?_)
     clear h H
     rintro s24 a w o ⟨ρ, σ25, rfl, rfl, H, hn26⟩ h hres
     refine c_seq (c_seq (rg (sm (I s24.2.2) rfl (sm (I By) rfl (st (v := (B (decide (s24.2.2 ≤ By)))) (rv_leq (a := s24.2.2) (b := By) rfl rfl) (w_end (q_then ?_)))))))
     refine cd_cond (decide (s24.2.2 ≤ By)) rfl (fun hb27 => ?_) (fun hb27 => ?_)
     ·replace h := bif_t hb27 h
      refine c_skip (q_then (c_blk (c_seq (rg (sm (Sl Gn s24.1 Gp) rfl (sm (I s24.2.1) rfl (sm (I s24.2.1) rfl (sm (I s19.2) rfl (st (v := (I (w64 (s24.2.1 + s19.2)))) (rv_add (a := s24.2.1) (b := s19.2) rfl rfl) (sm (I s24.2.2) rfl (sm (.func (.func 95) #[] #[(pt Jg Jh), (pt Jo Jp)]) rfl ?_)))))))))))
      revert h; refine br fun r28 hx29 h => ?_
      have hc30 := c_slices_symMergeCmpFunc_int__impl_ProbeOrder_1 100 (Gn := Gn) (Gp := Gp) (Hl := Jf) (Hm := Jg) (Hn := Jh) (Ho := Ji) (Hq := Jj) (Hj := Jd) (Hk := Je) (Hu := Jn) (Hv := Jo) (Hw := Jp) (Hx := Jq) (Hy := Jr) (Hr := Jk) (Ht := Jm) hx29
      refine st_call (cx_call hc30 (ent_f hc30.fn rfl) hn0 (H.sel' [0, 2, 1, 4, 3, 1, 3] rfl rfl : Hp S0 σ0 _ ([_, _, _, _, _] ++ _))) wn ?_
      rintro _ σ32 ⟨_, ⟨rfl, rfl, hn31⟩, H, -⟩
      replace H : Hp _ _ _ [_, _, _, _, _] := H
      have hsl : (Sl Gn s24.1 Gp) = (Sl Gn r28 Gp) := sl_len hn31.symm
      try rw [hsl]
      try rw [hsl] at H
      clear hsl
      refine w_end (q_then (c_seq (rg (sm (I s24.2.2) rfl (sa (I s24.2.2) rfl (w_end (q_then (rg (sm (I s24.2.2) rfl (sm (I s19.2) rfl (st (v := (I (w64 (2 * s19.2)))) (rv_mul (a := 2) (b := s19.2) rfl rfl) ?_)))))))))))
      refine st (v := (I (w64 (s24.2.2 + (w64 (2 * s19.2)))))) (rv_add (a := s24.2.2) (b := (w64 (2 * s19.2))) rfl rfl) (sa (I (w64 (s24.2.2 + (w64 (2 * s19.2))))) rfl (w_end (q_blk (q_then ?_))))
      obtain rfl := sj h
      exact ⟨_, rfl, _, σ32, fr_join ⟨rfl, rfl, rfl, rfl, rfl, rfl, trivial⟩, rfl, H.sel' [0, 3, 1, 4, 2] rfl rfl, ((hn31.trans (hn26.trans (hn21.trans (hn16.trans hn12)))).trans (hn21.trans (hn16.trans hn12)).symm)⟩
     ·replace h := bif_f hb27 h
      refine c_exit (q_then_x (q_then_x (q_blk_hit ?_)))
      obtain rfl := sj h
      obtain rfl := hres _ rfl
      exact ⟨rfl, _, σ25, fr_join ⟨rfl, rfl, rfl, rfl, rfl, trivial⟩, rfl, H.sel' [0, 1, 2, 3, 4] rfl rfl, ((hn26.trans (hn21.trans (hn16.trans hn12))).trans (hn21.trans (hn16.trans hn12)).symm)⟩
    ·clear hj
     have h := h'
     clear h' H
     rintro e a w ⟨rfl, ρ, σ33, rfl, rfl, H, hn34⟩
     refine q_then (c_seq (c_seq (rg (sm (I o23.2) rfl (sm (I s19.2) rfl (st (v := (I (w64 (o23.2 + s19.2)))) (rv_add (a := o23.2) (b := s19.2) rfl rfl) (sa (I (w64 (o23.2 + s19.2))) rfl (w_end (q_then (c_seq (rg ?_)))))))))))
     refine sm (I (w64 (o23.2 + s19.2))) rfl (sm (I By) rfl (st (v := (B (decide ((w64 (o23.2 + s19.2)) < By)))) (rv_lss (a := (w64 (o23.2 + s19.2))) (b := By) rfl rfl) (w_end (q_then ?_))))
     obtain ⟨o35, hj, h'⟩ := bind_some h
     clear h
     refine c_cut (fun e a w => e = .normal ∧ ∃ (ρ : Nat → Value) (σ : St), a = fr 63 (updL ρ [(0, (Sl Gn o35 Gp)), (1, (I By)), (2, (.func (.func 95) #[] #[(pt Jg Jh), (pt Jo Jp)])), (6, (I s19.2))]) ∧ w = σ.w ∧ Hp S0 σ0 σ [Ch.own 0 0 (Sl Gn o35 Gp) o35, Ch.ro 0 (Sl Jd Jb Je) Jb, Ch.bx Jf Jg Jh [(Sl Jd Jb Je)] Ji Jj, Ch.ro 0 (Sl Jk Jc Jm) Jc, Ch.bx Jn Jo Jp [(Sl Jk Jc Jm)] Jq Jr] ∧ o35.length = o23.1.length) ?_ ?_
     ·clear h'
      rename _ = some o35 => h
      refine cd_cond (decide ((w64 (o23.2 + s19.2)) < By)) rfl (fun hb36 => ?_) (fun hb36 => ?_)
      ·replace h := bif_t hb36 h
       refine rg (sm (Sl Gn o23.1 Gp) rfl (sm (I o23.2) rfl (sm (I (w64 (o23.2 + s19.2))) rfl (sm (I By) rfl (sm (.func (.func 95) #[] #[(pt Jg Jh), (pt Jo Jp)]) rfl ?_)))))
       revert h; refine br fun r37 hx38 h => ?_
       have hc39 := c_slices_symMergeCmpFunc_int__impl_ProbeOrder_1 100 (Gn := Gn) (Gp := Gp) (Hl := Jf) (Hm := Jg) (Hn := Jh) (Ho := Ji) (Hq := Jj) (Hj := Jd) (Hk := Je) (Hu := Jn) (Hv := Jo) (Hw := Jp) (Hx := Jq) (Hy := Jr) (Hr := Jk) (Ht := Jm) hx38
       refine st_call (cx_call hc39 (ent_f hc39.fn rfl) hn0 (H.sel' [0, 2, 1, 4, 3, 1, 3] rfl rfl : Hp S0 σ0 _ ([_, _, _, _, _] ++ _))) wn ?_
       rintro _ σ41 ⟨_, ⟨rfl, rfl, hn40⟩, H, -⟩
       replace H : Hp _ _ _ [_, _, _, _, _] := H
       have hsl : (Sl Gn o23.1 Gp) = (Sl Gn r37 Gp) := sl_len hn40.symm
       try rw [hsl]
       try rw [hsl] at H
       clear hsl
       refine w_end ?_
       obtain rfl := sj h
       exact ⟨rfl, _, σ41, fr_join ⟨rfl, rfl, rfl, rfl, trivial⟩, rfl, H.sel' [0, 3, 1, 4, 2] rfl rfl, ((hn40.trans (hn34.trans (hn21.trans (hn16.trans hn12)))).trans (hn34.trans (hn21.trans (hn16.trans hn12))).symm)⟩
      ·replace h := bif_f hb36 h
       refine c_skip ?_
       obtain rfl := sj h
       exact ⟨rfl, _, σ33, fr_join ⟨rfl, rfl, rfl, rfl, trivial⟩, rfl, H.sel' [0, 1, 2, 3, 4] rfl rfl, rfl⟩
     ·clear hj
      have h := h'
      clear h' H
      rintro e a w ⟨rfl, ρ, σ42, rfl, rfl, H, hn43⟩
      refine q_then (rg (sm (I s19.2) rfl (st (v := (I (w64 (s19.2 * 2)))) (rv_mul (a := s19.2) (b := 2) rfl rfl) (sa (I (w64 (s19.2 * 2))) rfl (w_end (q_blk (q_then ?_)))))))
      obtain rfl := sj h
      exact ⟨_, rfl, _, σ42, fr_join ⟨rfl, rfl, rfl, rfl, trivial⟩, rfl, H.sel' [0, 1, 2, 3, 4] rfl rfl, ((hn43.trans (hn34.trans (hn21.trans (hn16.trans hn12)))).trans (hn16.trans hn12).symm)⟩
   ·replace h := bif_f hb22 h
    refine c_exit (q_then_x (q_then_x (q_blk_hit ?_)))
    obtain rfl := sj h
    obtain rfl := hres _ rfl
    exact ⟨rfl, _, σ20, fr_join ⟨rfl, rfl, trivial⟩, rfl, H.sel' [0, 1, 2, 3, 4] rfl rfl, ((hn21.trans (hn16.trans hn12)).trans (hn16.trans hn12).symm)⟩
  ·clear hj
   have h := h'
   clear h' H
   rintro e a w ⟨rfl, ρ, σ44, rfl, rfl, H, hn45⟩
   obtain rfl := sj h
   exact fin_end (v := (.tuple #[])) (results_ok Tryz.results108 res_nil rfl) ⟨rfl, rfl, (hn45.trans (hn16.trans hn12))⟩ (H.sel' [0, 2, 4] rfl rfl)

theorem c_slices_SortStableFunc_int_int__impl_ProbeOrder_1 {Az : List Int} {Jt : List (List Int)} {Ju : List Int} {Dv : Option Addr} {Dw : Nat} {Jv : Option Addr} {Jw : Nat} {Jx Jy Jz : Nat} {Ka Kb : List Value} {Kc : Option Addr} {Kd : Nat} {Ke Kf Kg : Nat} {Kh Ki : List Value} {r : (List Int)} (h : M.slices_SortStableFunc_int_int__impl_ProbeOrder_1 Az Jt Ju = some r) :
    Cal2 Tryz.prog 94 [(Sl Dv Az Dw), (.func (.func 95) #[] #[(pt Jy Jz), (pt Kf Kg)])] [Ch.own 0 0 (Sl Dv Az Dw) Az, Ch.bx Jx Jy Jz [(Sl Jv Jt Jw)] Ka Kb, Ch.ro 0 (Sl Jv Jt Jw) Jt, Ch.bx Ke Kf Kg [(Sl Kc Ju Kd)] Kh Ki, Ch.ro 0 (Sl Kc Ju Kd) Ju] (fun n0 v L => v = (.tuple #[]) ∧ L = [Ch.own 0 0 (Sl Dv r Dw) r, Ch.bx Jx Jy Jz [(Sl Jv Jt Jw)] Ka Kb, Ch.bx Ke Kf Kg [(Sl Kc Ju Kd)] Kh Ki] ∧ r.length = Az.length) := by
 refine cal2 (n := 9) Tryz.func94 rfl rfl rfl rfl ?_
 intro S0 σ0 n0 hn0 H
 unfold M.slices_SortStableFunc_int_int__impl_ProbeOrder_1 at h
 refine rg (sm (Sl Dv Az Dw) rfl (sm (Sl Dv Az Dw) rfl (st (v := (I (Az.length : Int))) (rv_len Tryz.underlying23 rfl) (sm (.func (.func 95) #[] #[(pt Jy Jz), (pt Kf Kg)]) rfl ?_))))
 revert h; refine br fun r1 hx2 h => ?_
 have hc3 := c_slices_stableCmpFunc_int__impl_ProbeOrder_1 (Gn := Dv) (Gp := Dw) (Jf := Jx) (Jg := Jy) (Jh := Jz) (Ji := Ka) (Jj := Kb) (Jd := Jv) (Je := Jw) (Jn := Ke) (Jo := Kf) (Jp := Kg) (Jq := Kh) (Jr := Ki) (Jk := Kc) (Jm := Kd) hx2
 refine st_call (cx_call hc3 (ent_f hc3.fn rfl) hn0 (H.sel' [0, 1, 2, 3, 4, 2, 4] rfl rfl : Hp S0 σ0 _ ([_, _, _, _, _] ++ _))) wn ?_
 rintro _ σ5 ⟨_, ⟨rfl, rfl, hn4⟩, H, -⟩
 replace H : Hp _ _ _ [_, _, _, _, _] := H
 have hsl : (Sl Dv Az Dw) = (Sl Dv r1 Dw) := sl_len hn4.symm
 try rw [hsl]
 try rw [hsl] at H
 clear hsl
 refine w_end ?_
 obtain rfl := sj h
 exact fin_end (v := (.tuple #[])) (results_ok Tryz.results94 res_nil rfl) ⟨rfl, rfl, hn4⟩ (H.sel' [0, 1, 2] rfl rfl)

theorem c_impl_ProbeOrder {Bq : List (List Int)} {Br : List Int} {Bs : Int} {Bt : Option Addr} {Bu : Nat} {Bv : Option Addr} {Bw : Nat} {r : (List Int)} (h : M.impl_ProbeOrder Bq Br Bs = some r) :
    Cal2 Tryz.prog 69 [(Sl Bt Bq Bu), (Sl Bv Br Bw), (I Bs)] [Ch.ro 0 (Sl Bt Bq Bu) Bq, Ch.ro 0 (Sl Bv Br Bw) Br] (fun n0 v L => ∃ (az1 : Option Addr), ∃ (cz2 : Nat), v = (Sl az1 r cz2) ∧ L = [Ch.own 0 n0 (Sl az1 r cz2) r]) := by
 refine cal2 (n := 36) Tryz.func69 rfl rfl rfl rfl ?_
 intro S0 σ0 n0 hn0 H
 unfold M.impl_ProbeOrder at h
 refine c_seq (rg (st_ex (ex_box (cs := [(Sl Bt Bq Bu)]) H hn0 rfl rfl) wn ?_))
 rintro _ σ2 ⟨b1, rfl, H, -⟩
 refine st_ex (ex_box (cs := [(Sl Bv Br Bw)]) H hn0 rfl rfl) wn ?_
 rintro _ σ4 ⟨b3, rfl, H, -⟩
 refine sa (.slice none 0 0) rfl (w_end (q_then (c_seq (c_seq (rg ?_)))))
 have hc5 := H.cell (u := (Sl Bt Bq Bu)) (o' := 0) 1 0 rfl rfl rfl
 refine st (v := (Sl Bt Bq Bu)) (rv_load1 Tryz.underlying37 rfl rfl hc5) ?_
 have hc6 := H.cell (u := (Sl Bv Br Bw)) (o' := 0) 0 0 rfl rfl rfl
 refine st (v := (Sl Bv Br Bw)) (rv_load1 Tryz.underlying23 rfl rfl hc6) (sm (I Bs) rfl ?_)
 revert h; refine br fun r7 hx8 h => ?_
 have hc9 := c_impl_validProbe (Bt := Bt) (Bu := Bu) (Bv := Bv) (Bw := Bw) hx8
 refine st_call (cx_call hc9 (ent_f hc9.fn rfl) hn0 (H.sel' [2, 3, 0, 1, 2, 3] rfl rfl : Hp S0 σ0 _ ([_, _] ++ _))) wn ?_
 rintro _ σ10 ⟨_, ⟨rfl, rfl⟩, H, -⟩
 replace H : Hp _ _ _ [_, _, _, _] := H
 refine st (v := (B (!r7))) (rv_not rfl) (w_end (q_then ?_))
 refine cd_cond (!r7) rfl (fun hb11 => ?_) (fun hb11 => ?_)
 ·replace h := bif_t hb11 h
  refine c_seq (rg (sa (.slice none 0 0) rfl (w_end (q_then (c_ret (q_then_r ?_))))))
  replace H := H.nilOwn Int 0 n0
  obtain rfl := sj h
  exact fin_ret (v := (.slice none 0 0)) (results_ok Tryz.results69 (res_tmp (v := (.slice none 0 0)) rfl res_nil) rfl) ⟨none, 0, rfl, rfl⟩ (H.sel' [0] rfl rfl)
 ·replace h := bif_f hb11 h
  refine c_skip (q_then (c_seq (rg ?_)))
  have hc12 := H.cell (u := (Sl Bt Bq Bu)) (o' := 0) 1 0 rfl rfl rfl
  refine st (v := (Sl Bt Bq Bu)) (rv_load1 Tryz.underlying37 rfl rfl hc12) (st (v := (I (Bq.length : Int))) (rv_len Tryz.underlying37 rfl) ?_)
  revert h; refine br fun xs13 hx14 h => ?_
  refine st_ex (ex_make (el := n0) (z0 := (0 : Int)) (zs := [(I 0)]) H hn0 Tryz.underlying23 ti3 rfl rfl rfl (by decide) hx14 rfl rfl) wn ?_
  rintro _ σ18 ⟨b15, c16, rfl, ht17, H, -⟩
  replace ht17 := ht17.trans (gmake_len hx14).symm
  refine sa (Sl (some ⟨b15, 0, none⟩) xs13 c16) rfl (w_end (q_then (c_seq (c_seq (rg (sm (Sl (some ⟨b15, 0, none⟩) xs13 c16) rfl (st (v := (I (xs13.length : Int))) (rv_len Tryz.underlying23 rfl) (sm (I 0) rfl (w_end (q_then ?_))))))))))
  obtain ⟨o19, hj, h'⟩ := bind_some h
  clear h
  refine c_cut (fun e a w => e = .normal ∧ ∃ (ρ : Nat → Value) (σ : St), a = fr 36 (updL ρ [(2, (I Bs)), (3, (pt b1 0)), (4, (pt b3 0)), (7, (Sl (some ⟨b15, 0, none⟩) o19 c16))]) ∧ w = σ.w ∧ Hp S0 σ0 σ [Ch.ro 0 (Sl Bt Bq Bu) Bq, Ch.bx n0 b1 0 [(Sl Bt Bq Bu)] [] [], Ch.ro 0 (Sl Bv Br Bw) Br, Ch.bx n0 b3 0 [(Sl Bv Br Bw)] [] [], Ch.own n0 n0 (Sl (some ⟨b15, 0, none⟩) o19 c16) o19] ∧ c16 = o19.length ∧ o19.length = xs13.length) ?_ ?_
  ·clear h'
   rename _ = some o19 => h
   refine c_blk (wp_loopM _ h (fun s20 a w => ∃ (ρ : Nat → Value) (σ : St), a = fr 36 (updL ρ [(2, (I Bs)), (3, (pt b1 0)), (4, (pt b3 0)), (7, (Sl (some ⟨b15, 0, none⟩) s20.1 c16)), (18, (I (xs13.length : Int))), (19, (I s20.2))]) ∧ w = σ.w ∧ Hp S0 σ0 σ [Ch.ro 0 (Sl Bt Bq Bu) Bq, Ch.bx n0 b1 0 [(Sl Bt Bq Bu)] [] [], Ch.ro 0 (Sl Bv Br Bw) Br, Ch.bx n0 b3 0 [(Sl Bv Br Bw)] [] [], Ch.own n0 n0 (Sl (some ⟨b15, 0, none⟩) s20.1 c16) s20.1] ∧ c16 = s20.1.length ∧ s20.1.length = xs13.length) ⟨_, σ18, fr_join ⟨rfl, rfl, rfl, rfl, rfl, rfl, trivial⟩, rfl, H.sel' [3, 2, 4, 1, 0] rfl rfl, ht17, rfl⟩ ?_)
   clear h H
   rintro s20 a w o ⟨ρ, σ21, rfl, rfl, H, ht22, hn23⟩ h hres
   refine c_seq (rg (st (v := (B (decide (s20.2 < (xs13.length : Int))))) (rv_lss (a := s20.2) (b := (xs13.length : Int)) rfl rfl) (w_end (q_then (c_seq ?_)))))
   refine cd_cond (decide (s20.2 < (xs13.length : Int))) rfl (fun hb24 => ?_) (fun hb24 => ?_)
   ·replace h := bif_t hb24 h
    refine c_skip (q_then (c_seq (c_blk (c_seq (rg (sm (I s20.2) rfl (sa (I s20.2) rfl (w_end (q_then (rg (sm (Sl (some ⟨b15, 0, none⟩) s20.1 c16) rfl ?_)))))))))))
    refine sm (I s20.2) rfl (sm (I s20.2) rfl ?_)
    revert h; refine br fun x25 hx26 h => ?_
    obtain ⟨b28, o29, hi27, -⟩ := (H.own 4 rfl).ix hx26
    refine st (v := (pt b28 o29)) (rv_ix Tryz.underlying23 ti3 rfl rfl hi27) ?_
    refine st_exS (ex_store_own (e' := s20.2) (vs := [(I s20.2)]) (k := 0) H (i := 4) rfl ti3 hx26 hi27 rfl rfl rfl rfl rfl (Nat.le_of_ble_eq_true rfl) (by simp [plain]) (by rintro _ rfl; exact rfl)) wn ?_
    rintro σ30 ⟨H, -⟩
    have hsl : (Sl (some ⟨b15, 0, none⟩) s20.1 c16) = (Sl (some ⟨b15, 0, none⟩) (s20.1.set s20.2.toNat s20.2) c16) := sl_len List.length_set.symm
    rw [hsl]; rw [hsl] at H; clear hsl
    refine w_end (q_blk (q_then (rg (st (v := (I (w64 (s20.2 + 1)))) (rv_add (a := s20.2) (b := 1) rfl rfl) (sm (I (w64 (s20.2 + 1))) rfl (w_end (q_then ?_)))))))
    obtain rfl := sj h
    exact ⟨_, rfl, _, σ30, fr_join ⟨rfl, rfl, rfl, rfl, rfl, rfl, trivial⟩, rfl, H.sel' [1, 2, 3, 4, 0] rfl rfl, (ht22.trans List.length_set.symm), (List.length_set.trans hn23)⟩
   ·replace h := bif_f hb24 h
    refine c_exit (q_then_x (q_then_x (q_blk_hit ?_)))
    obtain rfl := sj h
    obtain rfl := hres _ rfl
    exact ⟨rfl, _, σ21, fr_join ⟨rfl, rfl, rfl, rfl, trivial⟩, rfl, H.sel' [0, 1, 2, 3, 4] rfl rfl, ht22, hn23⟩
  ·clear hj
   have h := h'
   clear h' H
   rintro e a w ⟨rfl, ρ, σ31, rfl, rfl, H, ht32, hn33⟩
   refine q_then (c_seq (rg (sm (Sl (some ⟨b15, 0, none⟩) o19 c16) rfl (st (v := (.func (.func 95) #[] #[(pt b1 0), (pt b3 0)])) (rv_makeFunc (vs := [(pt b1 0), (pt b3 0)]) rfl) ?_))))
   replace H := H.ownLow 4 0 0 rfl (Nat.zero_le _) (Nat.zero_le _)
   revert h; refine br fun r34 hx35 h => ?_
   have hc36 := c_slices_SortStableFunc_int_int__impl_ProbeOrder_1 (Dv := (some ⟨b15, 0, none⟩)) (Dw := c16) (Jx := n0) (Jy := b1) (Jz := 0) (Ka := []) (Kb := []) (Jv := Bt) (Jw := Bu) (Ke := n0) (Kf := b3) (Kg := 0) (Kh := []) (Ki := []) (Kc := Bv) (Kd := Bw) hx35
   refine st_call (cx_call hc36 (ent_f hc36.fn rfl) hn0 (H.sel' [0, 2, 1, 4, 3, 1, 3] rfl rfl : Hp S0 σ0 _ ([_, _, _, _, _] ++ _))) wn ?_
   rintro _ σ38 ⟨_, ⟨rfl, rfl, hn37⟩, H, -⟩
   replace H : Hp _ _ _ [_, _, _, _, _] := H
   have hsl : (Sl (some ⟨b15, 0, none⟩) o19 c16) = (Sl (some ⟨b15, 0, none⟩) r34 c16) := sl_len hn37.symm
   try rw [hsl]
   try rw [hsl] at H
   clear hsl
   refine w_end (q_then (c_seq (rg (sm (Sl (some ⟨b15, 0, none⟩) r34 c16) rfl (sm (I Bs) rfl (sm (Sl (some ⟨b15, 0, none⟩) r34 c16) rfl (st (v := (I (r34.length : Int))) (rv_len Tryz.underlying23 rfl) (st (v := (I (min Bs (r34.length : Int)))) (rv_min rfl rfl) ?_))))))))
   revert h; refine br fun xs39 hx40 h => ?_
   obtain ⟨a41, c42, hs43, hR44, hb45⟩ := (H.own 0 rfl).slice hx40
   replace H := (H.front (i := 0) rfl).turn (d := Ch.own 0 0 (Sl a41 xs39 c42) xs39) (fun _ => hR44) hb45; clear hR44 hb45
   refine st (v := (Sl a41 xs39 c42)) (rv_slice_h Tryz.underlying23 ti3 hs43 rfl rfl) (sa (Sl a41 xs39 c42) rfl (w_end (q_then (c_ret ?_))))
   replace H := H.ownSc 0 0 n0 rfl (Nat.le_refl _)
   obtain rfl := sj h
   exact fin_ret (v := (Sl a41 xs39 c42)) (results_ok Tryz.results69 (res_tmp (v := (Sl a41 xs39 c42)) rfl res_nil) rfl) ⟨a41, c42, rfl, rfl⟩ (H.sel' [0] rfl rfl)

theorem c_impl_probedItems {Bq : List (List Int)} {Ca : List (Int × (List Int) × Int)} {Be : List Int} {Cb : Int} {Bt : Option Addr} {Bu : Nat} {Cd : Option Addr} {Ce : Nat} {Bf : Option Addr} {Bg : Nat} {r : (List (Int × (List Int) × Int))} (h : M.impl_probedItems Bq Ca Be Cb = some r) :
    Cal2 Tryz.prog 44 [(Sl Bt Bq Bu), (Sl Cd Ca Ce), (Sl Bf Be Bg), (I Cb)] [Ch.ro 0 (Sl Bt Bq Bu) Bq, Ch.ro 0 (Sl Cd Ca Ce) Ca, Ch.ro 0 (Sl Bf Be Bg) Be] (fun n0 v L => ∃ (az1 : Option Addr), ∃ (cz2 : Nat), v = (Sl az1 r cz2) ∧ L = [Ch.own n0 0 (Sl az1 r cz2) r]) := by
 refine cal2 (n := 32) Tryz.func44 rfl rfl rfl rfl ?_
 intro S0 σ0 n0 hn0 H
 unfold M.impl_probedItems at h
 refine c_seq (rg (sa (.slice none 0 0) rfl (w_end (q_then (c_seq (rg (sm (Sl Bt Bq Bu) rfl (sm (Sl Cd Ca Ce) rfl ?_))))))))
 revert h; refine br fun r1 hx2 h => ?_
 have hc3 := c_impl_itemsByCentre (Bt := Bt) (Bu := Bu) (Cd := Cd) (Ce := Ce) hx2
 refine st_call (cx_call hc3 (ent_f hc3.fn rfl) hn0 (H.sel' [0, 1, 0, 1, 2] rfl rfl : Hp S0 σ0 _ ([_, _] ++ _))) wn ?_
 rintro _ σ7 ⟨_, ⟨b4, K5, rfl, rfl, hK6⟩, H, -⟩
 replace H : Hp _ _ _ [_, _, _, _] := H
 refine sa (.map (some b4)) rfl (w_end (q_then (c_seq (rg (sa (.slice none 0 0) rfl (w_end (q_then (c_seq (c_seq (rg (sm (Sl Bt Bq Bu) rfl ?_)))))))))))
 refine sm (Sl Bf Be Bg) rfl (sm (I Cb) rfl ?_)
 revert h; refine br fun r8 hx9 h => ?_
 have hc10 := c_impl_ProbeOrder (Bt := Bt) (Bu := Bu) (Bv := Bf) (Bw := Bg) hx9
 refine st_call (cx_call hc10 (ent_f hc10.fn rfl) hn0 (H.sel' [1, 3, 0, 1, 2, 3] rfl rfl : Hp S0 σ0 _ ([_, _] ++ _))) wn ?_
 rintro _ σ13 ⟨_, ⟨a11, c12, rfl, rfl⟩, H, -⟩
 replace H : Hp _ _ _ [_, _, _, _, _] := H
 refine st (v := (I (r8.length : Int))) (rv_len Tryz.underlying23 rfl) (sm (I 0) rfl (w_end (q_then ?_)))
 obtain ⟨o14, hj, h'⟩ := bind_some h
 clear h
 refine c_cut (fun e a w => e = .normal ∧ ∃ (ρ : Nat → Value) (σ : St) (aj1 : Option Addr) (cj2 : Nat), a = fr 32 (updL ρ [(10, (Sl aj1 o14 cj2))]) ∧ w = σ.w ∧ Hp S0 σ0 σ [Ch.own n0 0 (Sl aj1 o14 cj2) o14]) ?_ ?_
 ·clear h'
  rename _ = some o14 => h
  refine c_blk ?_
  obtain ⟨σ16, hw17, H, -⟩ := H.mpPub 1 rfl hK6
  rw [← hw17]; clear hw17
  replace H := H.nilOwn (Int × (List Int) × Int) n0 0
  refine wp_loopM _ h (fun s15 a w => ∃ (ρ : Nat → Value) (σ : St) (aj1 : Option Addr) (cj2 : Nat), a = fr 32 (updL ρ [(9, (.map (some b4))), (10, (Sl aj1 s15.1 cj2)), (19, (Sl a11 r8 c12)), (20, (I (r8.length : Int))), (21, (I s15.2))]) ∧ w = σ.w ∧ Hp S0 σ0 σ [Ch.mr b4 r1, Ch.own n0 0 (Sl aj1 s15.1 cj2) s15.1, Ch.own 0 n0 (Sl a11 r8 c12) r8]) ⟨_, σ16, none, 0, fr_join ⟨rfl, rfl, rfl, rfl, rfl, trivial⟩, rfl, H.sel' [1, 0, 2] rfl rfl⟩ ?_
  clear h H
  rintro s15 a w o ⟨ρ, σ18, a19, c20, rfl, rfl, H⟩ h hres
  refine c_seq (rg (st (v := (B (decide (s15.2 < (r8.length : Int))))) (rv_lss (a := s15.2) (b := (r8.length : Int)) rfl rfl) (w_end (q_then (c_seq ?_)))))
  refine cd_cond (decide (s15.2 < (r8.length : Int))) rfl (fun hb21 => ?_) (fun hb21 => ?_)
  ·replace h := bif_t hb21 h
   refine c_skip (q_then (c_seq (c_blk (c_seq (rg ?_)))))
   revert h; refine br fun x22 hx23 h => ?_
   obtain ⟨b25, o26, hi24, -⟩ := (H.own 2 rfl).ix hx23
   refine st (v := (pt b25 o26)) (rv_ix Tryz.underlying23 ti3 rfl rfl hi24) ?_
   have hc27 := ((H.own 2 rfl).at hx23 hi24).int
   refine st (v := (I x22)) (rv_load1 Tryz.underlying3 rfl rfl hc27) (sa (I x22) rfl (w_end (q_then (rg (sm (Sl a19 s15.1 c20) rfl (sm (.map (some b4)) rfl (sm (I x22) rfl ?_)))))))
   obtain ⟨v31, hL30, hR32⟩ := mrGet (H.mr 0 rfl) x22
   obtain ⟨a28, c29, rfl⟩ := hR32.isSl
   replace H := H.add (d := Ch.ro 0 (Sl a28 (mget r1 x22) c29) (mget r1 x22)) hR32 (fun _ h => h)
   clear hR32
   refine st (v := (Sl a28 (mget r1 x22) c29)) (rv_lookup Tryz.underlying100 Tryz.underlying3 ti27 rfl rfl hL30) ?_
   revert h; refine br fun xs33 hx34 h => ?_
   refine st_ex (ex_append H (i := 2) rfl Tryz.underlying27 Tryz.underlying27 ti54 rfl rfl (by decide) (H.ro 0 rfl).rd hx34 hn0 rfl rfl) wn ?_
   rintro _ σ37 ⟨a35, c36, rfl, H, -⟩
   refine sa (Sl a35 xs33 c36) rfl (w_end (q_blk (q_then (rg (st (v := (I (w64 (s15.2 + 1)))) (rv_add (a := s15.2) (b := 1) rfl rfl) (sm (I (w64 (s15.2 + 1))) rfl (w_end (q_then ?_))))))))
   obtain rfl := sj h
   exact ⟨_, rfl, _, σ37, a35, c36, fr_join ⟨rfl, rfl, rfl, rfl, rfl, trivial⟩, rfl, H.sel' [2, 0, 3] rfl rfl⟩
  ·replace h := bif_f hb21 h
   refine c_exit (q_then_x (q_then_x (q_blk_hit ?_)))
   obtain rfl := sj h
   obtain rfl := hres _ rfl
   exact ⟨rfl, _, σ18, a19, c20, fr_join ⟨rfl, trivial⟩, rfl, H.sel' [1] rfl rfl⟩
 ·clear hj
  have h := h'
  clear h' H
  rintro e a w ⟨rfl, ρ, σ38, a39, c40, rfl, rfl, H⟩
  refine q_then (c_seq (rg (sm (Sl a39 o14 c40) rfl (sa (Sl a39 o14 c40) rfl (w_end (q_then (c_ret ?_)))))))
  obtain rfl := sj h
  exact fin_ret (v := (Sl a39 o14 c40)) (results_ok Tryz.results44 (res_tmp (v := (Sl a39 o14 c40)) rfl res_nil) rfl) ⟨a39, c40, rfl, rfl⟩ (H.sel' [0] rfl rfl)

theorem c_impl_ProbeNearest {Bq : List (List Int)} {Ca : List (Int × (List Int) × Int)} {Be : List Int} {Cb : Int} {Cc : Int} {Bt : Option Addr} {Bu : Nat} {Cd : Option Addr} {Ce : Nat} {Bf : Option Addr} {Bg : Nat} {r : (List (Int × Int))} (h : M.impl_ProbeNearest Bq Ca Be Cb Cc = some r) :
    Cal2 Tryz.prog 20 [(Sl Bt Bq Bu), (Sl Cd Ca Ce), (Sl Bf Be Bg), (I Cb), (I Cc)] [Ch.ro 0 (Sl Bt Bq Bu) Bq, Ch.ro 0 (Sl Cd Ca Ce) Ca, Ch.ro 0 (Sl Bf Be Bg) Be] (fun n0 v L => ∃ (az1 : Option Addr), ∃ (cz2 : Nat), v = (Sl az1 r cz2) ∧ L = [Ch.own 0 n0 (Sl az1 r cz2) r]) := by
 refine cal2 (n := 31) Tryz.func20 rfl rfl rfl rfl ?_
 intro S0 σ0 n0 hn0 H
 unfold M.impl_ProbeNearest at h
 refine c_seq (rg (sa (.slice none 0 0) rfl (w_end (q_then (c_seq (c_seq ?_))))))
 obtain ⟨o1, hj, h'⟩ := bind_some h
 clear h
 refine c_cut (fun e a w => e = .normal ∧ ∃ (ρ : Nat → Value) (σ : St), a = fr 31 (updL ρ [(0, (Sl Bt Bq Bu)), (1, (Sl Cd Ca Ce)), (2, (Sl Bf Be Bg)), (3, (I Cb)), (4, (I Cc)), (22, (B o1))]) ∧ w = σ.w ∧ Hp S0 σ0 σ [Ch.ro 0 (Sl Bt Bq Bu) Bq, Ch.ro 0 (Sl Cd Ca Ce) Ca, Ch.ro 0 (Sl Bf Be Bg) Be]) ?_ ?_
 ·clear h'
  rename _ = some o1 => h
  refine rg (sm (Sl Bt Bq Bu) rfl (sm (Sl Bf Be Bg) rfl (sm (I Cb) rfl ?_)))
  revert h; refine br fun r2 hx3 h => ?_
  have hc4 := c_impl_validProbe (Bt := Bt) (Bu := Bu) (Bv := Bf) (Bw := Bg) hx3
  refine st_call (cx_call hc4 (ent_f hc4.fn rfl) hn0 (H.sel' [0, 2, 0, 1, 2] rfl rfl : Hp S0 σ0 _ ([_, _] ++ _))) wn ?_
  rintro _ σ5 ⟨_, ⟨rfl, rfl⟩, H, -⟩
  replace H : Hp _ _ _ [_, _, _] := H
  refine st (v := (B (!r2))) (rv_not rfl) (sm (B (!r2)) rfl ?_)
  rcases Bool.eq_false_or_eq_true (!r2) with hb6 | hb6
  ·replace h := bif_t hb6 h
   refine st_skip (congrArg some hb6) (st_skip (congrArg some hb6) (st_skip (congrArg some hb6) (st_skip (congrArg some hb6) (st_skip (congrArg some hb6) (st (v := (B true)) (rv_pick_t (congrArg B hb6) rfl) (w_end ?_))))))
   obtain rfl := sj h
   exact ⟨rfl, _, σ5, fr_join ⟨rfl, rfl, rfl, rfl, rfl, rfl, trivial⟩, rfl, H.sel' [0, 1, 2] rfl rfl⟩
  ·replace h := bif_f hb6 h
   refine st_g (v := (Sl Cd Ca Ce)) (congrArg some hb6) (rv_move rfl) (st_g (v := (Sl Bf Be Bg)) (congrArg some hb6) (rv_move rfl) (st_g (v := (I Cc)) (congrArg some hb6) (rv_move rfl) ?_))
   revert h; refine br fun r7 hx8 h => ?_
   have hc9 := c_impl_validSearch (Au := Cd) (Av := Ce) (Bf := Bf) (Bg := Bg) hx8
   refine st_call (cx_call hc9 (ent_f hc9.fn rfl) hn0 (H.sel' [1, 2, 0, 1, 2] rfl rfl : Hp S0 σ0 _ ([_, _] ++ _))) (wanted_yes rfl (by exact (congrArg some hb6))) ?_
   rintro _ σ10 ⟨_, ⟨rfl, rfl⟩, H, -⟩
   replace H : Hp _ _ _ [_, _, _] := H
   refine st_g (v := (B (!r7))) (congrArg some hb6) (rv_not rfl) (st (v := (B (!r7))) (rv_pick_f (congrArg B hb6) rfl) (w_end ?_))
   obtain rfl := sj h
   exact ⟨rfl, _, σ10, fr_join ⟨rfl, rfl, rfl, rfl, rfl, rfl, trivial⟩, rfl, H.sel' [0, 1, 2] rfl rfl⟩
 ·clear hj
  have h := h'
  clear h' H
  rintro e a w ⟨rfl, ρ, σ11, rfl, rfl, H⟩
  refine q_then ?_
  refine cd_cond o1 rfl (fun hb12 => ?_) (fun hb12 => ?_)
  ·replace h := bif_t hb12 h
   refine c_seq (rg (sa (.slice none 0 0) rfl (w_end (q_then (c_ret (q_then_r ?_))))))
   replace H := H.nilOwn (Int × Int) 0 n0
   obtain rfl := sj h
   exact fin_ret (v := (.slice none 0 0)) (results_ok Tryz.results20 (res_tmp (v := (.slice none 0 0)) rfl res_nil) rfl) ⟨none, 0, rfl, rfl⟩ (H.sel' [0] rfl rfl)
  ·replace h := bif_f hb12 h
   refine c_skip (q_then (c_seq (rg (sm (Sl Bt Bq Bu) rfl (sm (Sl Cd Ca Ce) rfl (sm (Sl Bf Be Bg) rfl (sm (I Cb) rfl ?_)))))))
   revert h; refine br fun r13 hx14 h => ?_
   have hc15 := c_impl_probedItems (Bt := Bt) (Bu := Bu) (Cd := Cd) (Ce := Ce) (Bf := Bf) (Bg := Bg) hx14
   refine st_call (cx_call hc15 (ent_f hc15.fn rfl) hn0 (H.sel' [0, 1, 2, 0, 1, 2] rfl rfl : Hp S0 σ0 _ ([_, _, _] ++ _))) wn ?_
   rintro _ σ18 ⟨_, ⟨a16, c17, rfl, rfl⟩, H, -⟩
   replace H : Hp _ _ _ [_, _, _, _] := H
   refine sm (Sl Bf Be Bg) rfl (sm (I Cc) rfl ?_)
   obtain ⟨σ19, hw20, H, -⟩ := H.pub 0 rfl (Nat.zero_le _)
   rw [← hw20]; clear hw20
   revert h; refine br fun r21 hx22 h => ?_
   have hc23 := c_impl_nearestAmong (Au := a16) (Av := c17) (Bf := Bf) (Bg := Bg) hx22
   refine st_call (cx_call hc23 (ent_f hc23.fn rfl) hn0 (H.sel' [0, 3, 0, 1, 2, 3] rfl rfl : Hp S0 σ0 _ ([_, _] ++ _))) wn ?_
   rintro _ σ26 ⟨_, ⟨a24, c25, rfl, rfl⟩, H, -⟩
   replace H : Hp _ _ _ [_, _, _, _, _] := H
   refine sa (Sl a24 r21 c25) rfl (w_end (q_then (c_ret ?_)))
   obtain rfl := sj h
   exact fin_ret (v := (Sl a24 r21 c25)) (results_ok Tryz.results20 (res_tmp (v := (Sl a24 r21 c25)) rfl res_nil) rfl) ⟨a24, c25, rfl, rfl⟩ (H.sel' [0] rfl rfl)

theorem c_laws_eqIntSS {Aa : List (List Int)} {Ah : List (List Int)} {Ad : Option Addr} {Ae : Nat} {Ai : Option Addr} {Aj : Nat} {r : Bool} (h : M.laws_eqIntSS Aa Ah = some r) :
    Cal2 Tryz.prog 21 [(Sl Ad Aa Ae), (Sl Ai Ah Aj)] [Ch.ro 0 (Sl Ad Aa Ae) Aa, Ch.ro 0 (Sl Ai Ah Aj) Ah] (fun n0 v L => v = (B r) ∧ L = []) := by
 refine cal2 (n := 27) Tryz.func21 rfl rfl rfl rfl ?_
 intro S0 σ0 n0 hn0 H
 unfold M.laws_eqIntSS at h
 refine c_seq (rg (sa (B false) rfl (w_end (q_then (c_seq (c_seq (rg (sm (Sl Ad Aa Ae) rfl (st (v := (I (Aa.length : Int))) (rv_len Tryz.underlying37 rfl) (sm (Sl Ai Ah Aj) rfl (st (v := (I (Ah.length : Int))) (rv_len Tryz.underlying37 rfl) ?_)))))))))))
 refine st (v := (B ((Aa.length : Int) != (Ah.length : Int)))) (rv_neq (a := (Aa.length : Int)) (b := (Ah.length : Int)) rfl rfl) (w_end (q_then ?_))
 refine cd_cond ((Aa.length : Int) != (Ah.length : Int)) rfl (fun hb1 => ?_) (fun hb1 => ?_)
 ·replace h := bif_t hb1 h
  refine c_seq (rg (sa (B false) rfl (w_end (q_then (c_ret (q_then_r ?_))))))
  obtain rfl := sj h
  exact fin_ret (v := (B false)) (results_ok Tryz.results21 (res_tmp (v := (B false)) rfl res_nil) rfl) ⟨rfl, rfl⟩ (H.sel' [] rfl rfl)
 ·replace h := bif_f hb1 h
  refine c_skip (q_then (c_seq (c_seq (rg (sa (I 0) rfl (w_end (q_then ?_)))))))
  obtain ⟨o2, hj, h'⟩ := bind_some h
  clear h
  refine c_cut (fun e a w => (∃ t, o2 = (.inl t) ∧ e = .normal ∧ ∃ (ρ : Nat → Value) (σ : St), a = fr 27 (updL ρ []) ∧ w = σ.w ∧ Hp S0 σ0 σ []) ∨ (∃ t, o2 = (.inr t) ∧ e = .ret ∧ ∃ (ρ : Nat → Value) (σ : St), a = fr 27 (updL ρ [(4, (B t))]) ∧ w = σ.w ∧ Hp S0 σ0 σ [])) ?_ ?_
  ·clear h'
   rename _ = some o2 => h
   refine c_blk (wp_loopM _ h (fun s3 a w => ∃ (ρ : Nat → Value) (σ : St), a = fr 27 (updL ρ [(0, (Sl Ad Aa Ae)), (1, (Sl Ai Ah Aj)), (5, (I s3))]) ∧ w = σ.w ∧ Hp S0 σ0 σ [Ch.ro 0 (Sl Ad Aa Ae) Aa, Ch.ro 0 (Sl Ai Ah Aj) Ah]) ⟨_, σ0, fr_join ⟨rfl, rfl, rfl, trivial⟩, rfl, H.sel' [0, 1] rfl rfl⟩ ?_)
   clear h H
   rintro s3 a w o ⟨ρ, σ4, rfl, rfl, H⟩ h hres
   refine c_seq (c_seq (rg (sm (I s3) rfl (sm (Sl Ad Aa Ae) rfl (st (v := (I (Aa.length : Int))) (rv_len Tryz.underlying37 rfl) (st (v := (B (decide (s3 < (Aa.length : Int))))) (rv_lss (a := s3) (b := (Aa.length : Int)) rfl rfl) (w_end (q_then ?_))))))))
   refine cd_cond (decide (s3 < (Aa.length : Int))) rfl (fun hb5 => ?_) (fun hb5 => ?_)
   ·replace h := bif_t hb5 h
    refine c_skip (q_then (c_seq (c_blk (c_seq ?_))))
    refine rgP (σ := σ4) 8 (by kernel_rfl) (by kernel_rfl) (by kernel_rfl) ?_
    refine sq (v := (Sl Ad Aa Ae)) (rv_move rfl) (sq (v := (I s3)) (rv_move rfl) ?_)
    revert h; refine br fun x6 hx7 h => ?_
    obtain ⟨b9, o10, hi8, -⟩ := (H.ro 0 rfl).ix hx7
    refine sq (v := (pt b9 o10)) (rv_ix Tryz.underlying37 ti23 rfl rfl hi8) ?_
    obtain ⟨v14, hc15, hR13⟩ := ((H.ro 0 rfl).at hx7 hi8).slice
    obtain ⟨a11, c12, rfl⟩ := hR13.isSl
    replace H := H.add (d := Ch.ro 0 (Sl a11 x6 c12) x6) hR13 (fun _ h => h)
    clear hR13
    refine sq (v := (Sl a11 x6 c12)) (rv_load1 Tryz.underlying23 rfl rfl hc15) (sq (v := (Sl Ai Ah Aj)) (rv_move rfl) (sq (v := (I s3)) (rv_move rfl) ?_))
    revert h; refine br fun x16 hx17 h => ?_
    obtain ⟨b19, o20, hi18, -⟩ := (H.ro 2 rfl).ix hx17
    refine sq (v := (pt b19 o20)) (rv_ix Tryz.underlying37 ti23 rfl rfl hi18) ?_
    obtain ⟨v24, hc25, hR23⟩ := ((H.ro 2 rfl).at hx17 hi18).slice
    obtain ⟨a21, c22, rfl⟩ := hR23.isSl
    replace H := H.add (d := Ch.ro 0 (Sl a21 x16 c22) x16) hR23 (fun _ h => h)
    clear hR23
    refine sq (v := (Sl a21 x16 c22)) (rv_load1 Tryz.underlying23 rfl rfl hc25) (sq_end ?_)
    intro σ26 hm27
    replace H := H.grow (hm27.mono fun _ h => h); clear hm27
    revert h; refine br fun r28 hx29 h => ?_
    have hc30 := c_laws_eqIntS (Ad := a11) (Ae := c12) (Ai := a21) (Aj := c22) hx29
    refine st_call (cx_call hc30 (ent_f hc30.fn rfl) hn0 (H.sel' [1, 0, 0, 1, 2, 3] rfl rfl : Hp S0 σ0 _ ([_, _] ++ _))) wn ?_
    rintro _ σ31 ⟨_, ⟨rfl, rfl⟩, H, -⟩
    replace H : Hp _ _ _ [_, _, _, _] := H
    refine st (v := (B (!r28))) (rv_not rfl) (w_end (q_then ?_))
    refine cd_cond (!r28) rfl (fun hb32 => ?_) (fun hb32 => ?_)
    ·replace h := bif_t hb32 h
     refine c_seq (rg (sa (B false) rfl (w_end (q_then (c_ret (q_blk_r (q_then_r (q_then_r (q_blk_r ?_)))))))))
     obtain rfl := sj h
     obtain rfl := hres _ rfl
     exact .inr (⟨_, rfl, rfl, _, σ31, fr_join ⟨rfl, trivial⟩, rfl, H.sel' [] rfl rfl⟩)
    ·replace h := bif_f hb32 h
     refine c_skip (q_blk (q_then (rg (sm (I s3) rfl (st (v := (I (w64 (s3 + 1)))) (rv_add (a := s3) (b := 1) rfl rfl) (sa (I (w64 (s3 + 1))) rfl (w_end (q_then ?_))))))))
     obtain rfl := sj h
     exact ⟨_, rfl, _, σ31, fr_join ⟨rfl, rfl, rfl, trivial⟩, rfl, H.sel' [2, 3] rfl rfl⟩
   ·replace h := bif_f hb5 h
    refine c_exit (q_then_x (q_then_x (q_blk_hit ?_)))
    obtain rfl := sj h
    obtain rfl := hres _ rfl
    exact .inl ⟨_, rfl, rfl, _, σ4, fr_join trivial, rfl, H.sel' [] rfl rfl⟩
  ·clear hj
   have h := h'
   clear h' H
   rintro e a w (⟨t33, rfl, rfl, ρ, σ34, rfl, rfl, H⟩ | ⟨t35, rfl, rfl, ρ, σ36, rfl, rfl, H⟩)
   ·replace h := selim_l h
    refine q_then (c_seq (rg (sa (B true) rfl (w_end (q_then (c_ret ?_))))))
    obtain rfl := sj h
    exact fin_ret (v := (B true)) (results_ok Tryz.results21 (res_tmp (v := (B true)) rfl res_nil) rfl) ⟨rfl, rfl⟩ (H.sel' [] rfl rfl)
   ·replace h := selim_r h
    refine q_then_r ?_
    obtain rfl := sj h
    exact fin_ret (v := (B t35)) (results_ok Tryz.results21 (res_tmp (v := (B t35)) rfl res_nil) rfl) ⟨rfl, rfl⟩ (H.sel' [] rfl rfl)

theorem c_laws_markIntSS {Aa : List (List Int)} {Ao : Int} {Ad : Option Addr} {Ae : Nat} {lo : Nat} {K : List Ch} (hK : Dp lo (Sl Ad Aa Ae) Aa K) {r : Int} (h : M.markIntSD Aa Ao = some r) :
    Cal2 Tryz.prog 22 [(Sl Ad Aa Ae), (I Ao)] [Ch.big K] (fun n0 v L => v = (I r) ∧ L = []) := by
 obtain ⟨hn, h⟩ := markIntSD_some h
 obtain ⟨ps, hps, rfl⟩ := hK.ex
 refine cal2 (n := 19) Tryz.func22 rfl rfl rfl rfl ?_
 intro S0 σ0 n0 hn0 H
 refine c_seq (rg (sa (I 0) rfl (w_end (q_then (c_seq (c_seq (rg (sa (I 0) rfl (w_end (q_then ?_))))))))))
 refine c_cut (fun e a w => e = .normal ∧ ∃ (ρ : Nat → Value) (σ : St), a = fr 19 (updL ρ [(1, (I r))]) ∧ w = σ.w ∧ Hp S0 σ0 σ []) ?_ ?_
 ·refine c_blk ?_
  have hlen : ps.length = Aa.length := by rw [hps]; simp
  refine wp_loop_ghost (fun m a w => ∃ (i : Nat) (ρ : Nat → Value) (σ : St) (ys : List Value) (qs : List ((List Int) × Value)) (k : Int), i + m = Aa.length ∧ qs.length = m ∧ ys.drop i = qs.map dsh ∧ M.dmarkIntSS (qs.map (·.1)) k = some r ∧ a = fr 19 (updL ρ [(0, (Sl Ad Aa Ae)), (1, (I k)), (5, (I (i : Int)))]) ∧ w = σ.w ∧ Hp S0 σ0 σ [Ch.own lo lo (Sl Ad Aa Ae) ys, Ch.big (qs.map (dow lo))]) Aa.length ⟨0, _, σ0, _, ps, Ao, by omega, hlen, rfl, hps ▸ h, fr_join ⟨rfl, rfl, rfl, trivial⟩, rfl, H.unbig⟩ ?_
  clear H
  rintro m _ _ ⟨i, ρ, σ3, ys, qs, k, him, hqs, hys, hk, rfl, rfl, H⟩
  refine c_seq (c_seq (rg (sm (I (i : Int)) rfl (sm (Sl Ad Aa Ae) rfl (st (v := (I (Aa.length : Int))) (rv_len Tryz.underlying37 rfl) (st (v := (B (decide ((i : Int) < (Aa.length : Int))))) (rv_lss (a := (i : Int)) (b := (Aa.length : Int)) rfl rfl) (w_end (q_then ?_))))))))
  refine cd_cond (decide ((i : Int) < (Aa.length : Int))) rfl (fun hb => ?_) (fun hb => ?_)
  ·have hlt : i < Aa.length := by have := of_decide_eq_true hb; omega
   obtain ⟨m, rfl⟩ : ∃ m', m = m' + 1 := ⟨m - 1, by omega⟩
   obtain ⟨p, qs, rfl⟩ : ∃ p qs', qs = p :: qs' := by cases qs with
    | nil => cases hqs
    | cons p qs => exact ⟨p, qs, rfl⟩
   obtain ⟨q, hq, hk'⟩ := bind_some (show (M.laws_markIntS p.1 k).bind (fun q => M.dmarkIntSS (qs.map (·.1)) q.1) = some r from hk)
   replace hys : ys.drop i = dsh p :: qs.map dsh := hys
   refine c_skip (q_then (c_seq (c_blk (rg (sm (Sl Ad Aa Ae) rfl (sm (I (i : Int)) rfl ?_))))))
   have hx7 := gidx_drop hys
   obtain ⟨b9, o10, hi8, -⟩ := (H.own 0 rfl).ix hx7
   refine st (v := (pt b9 o10)) (rv_ix Tryz.underlying37 ti23 rfl rfl hi8) ?_
   obtain ⟨_, ⟨rfl, hpl⟩, hl18, hc19⟩ := ((H.own 0 rfl).at hx7 hi8).cells
   replace H := Hp.unbig (H.sel' [1, 0] rfl rfl)
   obtain ⟨a20, c21, h22⟩ : IsSl p.2 p.1.length := (show Ow σ3 lo lo p.2 p.1 from H.head).isSl
   obtain ⟨px, hd⟩ := p
   dsimp only at h22 hq hys hc19
   subst h22
   have hc20 := hc19 0 (by simp)
   refine st (v := (Sl a20 px c21)) (rv_load1 Tryz.underlying23 rfl rfl hc20) (sm (I k) rfl ?_)
   replace H : Hp _ _ _ [_, _, _] := H
   replace H := H.ownSc 0 0 0 rfl (Nat.zero_le _)
   have hc25 := c_laws_markIntS (Ad := a20) (Ae := c21) hq
   refine st_call (cx_call hc25 (ent_f hc25.fn rfl) hn0 (H.sel' [0, 1, 2] rfl rfl : Hp S0 σ0 _ ([_] ++ _))) (wanted_none _ rfl _) ?_
   rintro _ σ29 ⟨_, ⟨rfl, rfl, -⟩, H, -⟩
   replace H : Hp _ _ _ [_, _, _] := H
   replace H := H.sel' [2, 1] rfl rfl
   refine sa (I q.1) rfl (w_end (q_blk (q_then (rg (sm (I (i : Int)) rfl (st (v := (I (w64 ((i : Int) + 1)))) (rv_add (a := (i : Int)) (b := 1) rfl rfl) (sa (I (w64 ((i : Int) + 1))) rfl (w_end ?_))))))))
   have e1 : w64 ((i : Int) + 1) = ((i + 1 : Nat) : Int) := w64_id (by omega) (by omega)
   rw [e1]
   refine q_then ?_
   exact ⟨m, by omega, i + 1, _, σ29, _, qs, _, by omega, by simpa using hqs, drop_next hys, hk', fr_join ⟨rfl, rfl, rfl, trivial⟩, rfl, H⟩
  ·have hlt : ¬ i < Aa.length := by have := of_decide_eq_false hb; omega
   obtain rfl : m = 0 := by omega
   obtain rfl : qs = [] := List.eq_nil_of_length_eq_zero hqs
   obtain rfl : k = r := Option.some.inj hk
   refine c_exit (q_then_x (q_then_x (q_blk_hit ?_)))
   exact ⟨rfl, _, σ3, fr_join ⟨rfl, trivial⟩, rfl, H.sel' [] rfl rfl⟩
 ·clear H
  rintro e a w ⟨rfl, ρ, σ41, rfl, rfl, H⟩
  refine q_then (c_seq (rg (sm (I r) rfl (sa (I r) rfl (w_end (q_then (c_ret ?_)))))))
  exact fin_ret (v := (I r)) (results_ok Tryz.results22 (res_tmp (v := (I r)) rfl res_nil) rfl) ⟨rfl, rfl⟩ H


end Go.Vs

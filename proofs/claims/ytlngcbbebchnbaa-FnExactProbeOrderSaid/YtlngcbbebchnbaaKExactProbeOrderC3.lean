/- The functions compute what their models say. -/
import Derived.Test.YtlngcbbebchnbaaKExactProbeOrderC2
set_option linter.unusedVariables false
set_option linter.unusedSimpArgs false
set_option maxRecDepth 20000
namespace Go.Vs
open Go Go.Proofs
attribute [local irreducible] Code.wp Code.wpIn wpList wpListIn wpQuiet Calls CallsIn

theorem c_slices_symMergeCmpFunc_int__impl_ProbeOrder_1 : ∀ (fuel : Nat) {Cm : List Int} {Ax : Int} {Eb : Int} {Ec : Int} {Dj : List (List Int)} {Dk : List Int} {Cq : Option Addr} {Cr : Nat} {Dm : Option Addr} {Dn : Nat} {Do Dq Dr : Nat} {Ds Dt : List Value} {Du : Option Addr} {Dv : Nat} {Dw Dx Dy : Nat} {Dz Ea : List Value} {r : (List Int)} (h : M.slices_symMergeCmpFunc_int__impl_ProbeOrder_1 fuel Cm Ax Eb Ec Dj Dk = some r),
    Cal2 Try.prog 114 [(Sl Cq Cm Cr), (I Ax), (I Eb), (I Ec), (.func (.func 89) #[] #[(pt Dq Dr), (pt Dx Dy)])] [Ch.own 0 0 (Sl Cq Cm Cr) Cm, Ch.bx Do Dq Dr [(Sl Dm Dj Dn)] Ds Dt, Ch.ro 0 (Sl Dm Dj Dn) Dj, Ch.bx Dw Dx Dy [(Sl Du Dk Dv)] Dz Ea, Ch.ro 0 (Sl Du Dk Dv) Dk] (fun n0 v L => v = (.tuple #[]) ∧ L = [Ch.own 0 0 (Sl Cq r Cr) r, Ch.bx Do Dq Dr [(Sl Dm Dj Dn)] Ds Dt, Ch.bx Dw Dx Dy [(Sl Du Dk Dv)] Dz Ea] ∧ r.length = Cm.length) := by
 intro fuel
 induction fuel with
 | zero => intro _ _ _ _ _ _ _ _ _ _ _ _ _ _ _ _ _ _ _ _ _ _ r h; cases h
 | succ fuel ih =>
 ·intro Cm Ax Eb Ec Dj Dk Cq Cr Dm Dn Do Dq Dr Ds Dt Du Dv Dw Dx Dy Dz Ea r h
  replace h : M.slices_symMergeCmpFunc_int__impl_ProbeOrder_1_F (M.slices_symMergeCmpFunc_int__impl_ProbeOrder_1 fuel) Cm Ax Eb Ec Dj Dk = some r := h
  refine cal2 (n := 220) Try.func114 rfl rfl rfl rfl ?_
  intro S0 σ0 n0 hn0 H
  unfold M.slices_symMergeCmpFunc_int__impl_ProbeOrder_1_F at h
  refine c_seq (c_seq (rg (st (v := (I Eb)) (rv_move rfl) (st (v := (I Ax)) (rv_move rfl) (st (v := (I (w64 (Eb - Ax)))) (rv_sub (a := Eb) (b := Ax) rfl rfl) (st (v := (B ((w64 (Eb - Ax)) == 1))) (rv_eql (a := (w64 (Eb - Ax))) (b := 1) rfl rfl) (w_end (q_then ?_))))))))
  refine cd_cond ((w64 (Eb - Ax)) == 1) rfl (fun hb1 => ?_) (fun hb1 => ?_)
  ·replace h := bif_t hb1 h
   refine c_seq (rg (st (v := (I Eb)) (rv_move rfl) (st (v := (I Eb)) (rv_assign rfl) (w_end (q_then (c_seq (rg (st (v := (I Ec)) (rv_move rfl) (st (v := (I Ec)) (rv_assign rfl) (w_end (q_then ?_)))))))))))
   refine c_seq ?_
   obtain ⟨o2, hj, h'⟩ := bind_some h
   clear h
   refine c_cut (fun e a w => e = .normal ∧ ∃ (ρ : Nat → Value) (σ : St), a = fr 220 (updL ρ [(0, (Sl Cq Cm Cr)), (1, (I Ax)), (4, (.func (.func 89) #[] #[(pt Dq Dr), (pt Dx Dy)])), (10, (I o2))]) ∧ w = σ.w ∧ Hp S0 σ0 σ [Ch.own 0 0 (Sl Cq Cm Cr) Cm, Ch.ro 0 (Sl Dm Dj Dn) Dj, Ch.bx Do Dq Dr [(Sl Dm Dj Dn)] Ds Dt, Ch.ro 0 (Sl Du Dk Dv) Dk, Ch.bx Dw Dx Dy [(Sl Du Dk Dv)] Dz Ea]) ?_ ?_
   ·clear h'
    rename _ = some o2 => h
    refine c_blk (wp_loopM _ h (fun s3 a w => ∃ (ρ : Nat → Value) (σ : St), a = fr 220 (updL ρ [(0, (Sl Cq Cm Cr)), (1, (I Ax)), (4, (.func (.func 89) #[] #[(pt Dq Dr), (pt Dx Dy)])), (10, (I s3.1)), (11, (I s3.2))]) ∧ w = σ.w ∧ Hp S0 σ0 σ [Ch.own 0 0 (Sl Cq Cm Cr) Cm, Ch.ro 0 (Sl Dm Dj Dn) Dj, Ch.bx Do Dq Dr [(Sl Dm Dj Dn)] Ds Dt, Ch.ro 0 (Sl Du Dk Dv) Dk, Ch.bx Dw Dx Dy [(Sl Du Dk Dv)] Dz Ea]) ⟨_, σ0, fr_join ⟨rfl, rfl, rfl, rfl, rfl, trivial⟩, rfl, H.sel' [0, 2, 1, 4, 3] rfl rfl⟩ ?_)
    clear h H
    rintro s3 a w o ⟨ρ, σ4, rfl, rfl, H⟩ h hres
    refine c_seq (c_seq (rg (st (v := (I s3.1)) (rv_move rfl) (st (v := (I s3.2)) (rv_move rfl) (st (v := (B (decide (s3.1 < s3.2)))) (rv_lss (a := s3.1) (b := s3.2) rfl rfl) (w_end (q_then ?_)))))))
    refine cd_cond (decide (s3.1 < s3.2)) rfl (fun hb5 => ?_) (fun hb5 => ?_)
    ·replace h := bif_t hb5 h
     refine c_skip (q_then (c_blk (c_seq (rg (st (v := (I s3.1)) (rv_move rfl) (st (v := (I s3.2)) (rv_move rfl) (st (v := (I (w64 (s3.1 + s3.2)))) (rv_add (a := s3.1) (b := s3.2) rfl rfl) (st (v := (.int .u64 (wk .u64 (w64 (s3.1 + s3.2))))) (rvk_conv (k := .i64) (k' := .u64) (a := (w64 (s3.1 + s3.2))) Try.underlying3 Try.underlying101 rfl) ?_))))))))
     refine st (v := (.int .u64 (gshr .u64 (wk .u64 (w64 (s3.1 + s3.2))) 1))) (rvk_shr (k := .u64) (k' := .u64) (a := (wk .u64 (w64 (s3.1 + s3.2)))) (b := 1) rfl rfl (by decide)) ?_
     refine st (v := (I (wk .i64 (gshr .u64 (wk .u64 (w64 (s3.1 + s3.2))) 1)))) (rvk_conv (k := .u64) (k' := .i64) (a := (gshr .u64 (wk .u64 (w64 (s3.1 + s3.2))) 1)) Try.underlying101 Try.underlying3 rfl) (st (v := (I (wk .i64 (gshr .u64 (wk .u64 (w64 (s3.1 + s3.2))) 1)))) (rv_assign rfl) (w_end (q_then (c_seq ?_))))
     refine rgP (σ := σ4) 9 (by kernel_rfl) (by kernel_rfl) (by kernel_rfl) ?_
     refine sq (v := (.func (.func 89) #[] #[(pt Dq Dr), (pt Dx Dy)])) (rv_move rfl) (sq (v := (Sl Cq Cm Cr)) (rv_move rfl) (sq (v := (I (wk .i64 (gshr .u64 (wk .u64 (w64 (s3.1 + s3.2))) 1)))) (rv_move rfl) ?_))
     obtain ⟨x6, hx7, h'⟩ := bind_some h
     clear h
     have h := h'; clear h'
     obtain ⟨b9, o10, hi8, -⟩ := (H.own 0 rfl).ix hx7
     refine sq (v := (pt b9 o10)) (rv_ix Try.underlying23 ti3 rfl rfl hi8) ?_
     have hc11 := ((H.own 0 rfl).at hx7 hi8).int
     refine sq (v := (I x6)) (rv_load1 Try.underlying3 rfl rfl hc11) (sq (v := (Sl Cq Cm Cr)) (rv_move rfl) (sq (v := (I Ax)) (rv_move rfl) ?_))
     obtain ⟨x12, hx13, h'⟩ := bind_some h
     clear h
     have h := h'; clear h'
     obtain ⟨b15, o16, hi14, -⟩ := (H.own 0 rfl).ix hx13
     refine sq (v := (pt b15 o16)) (rv_ix Try.underlying23 ti3 rfl rfl hi14) ?_
     have hc17 := ((H.own 0 rfl).at hx13 hi14).int
     refine sq (v := (I x12)) (rv_load1 Try.underlying3 rfl rfl hc17) (sq_end ?_)
     intro σ18 hm19
     replace H := H.grow (hm19.mono fun _ h => h); clear hm19
     obtain ⟨r20, hx21, h'⟩ := bind_some h
     clear h
     have h := h'; clear h'
     have hc22 := c_impl_ProbeOrder_1__p_SSint__p24 (Bz := Do) (Ca := Dq) (Cb := Dr) (Cc := Ds) (Cd := Dt) (Bw := Dm) (By := Dn) (Cg := Dw) (Ci := Dx) (Cj := Dy) (Ck := Dz) (Cl := Ea) (Ce := Du) (Cf := Dv) hx21
     refine st_call (cx_call hc22 (ent_v (cap := [(pt Dq Dr), (pt Dx Dy)]) hc22.fn rfl rfl) hn0 (H.sel' [2, 1, 4, 3, 0, 1, 3] rfl rfl : Hp S0 σ0 _ ([_, _, _, _] ++ _))) wn ?_
     rintro _ σ23 ⟨_, ⟨rfl, rfl⟩, H, -⟩
     replace H : Hp _ _ _ [_, _, _, _, _] := H
     refine st (v := (B (decide (r20 < 0)))) (rv_lss (a := r20) (b := 0) rfl rfl) (w_end (q_then ?_))
     refine cd_cond (decide (r20 < 0)) rfl (fun hb24 => ?_) (fun hb24 => ?_)
     ·replace h := bif_t hb24 h
      refine rg (st (v := (I (wk .i64 (gshr .u64 (wk .u64 (w64 (s3.1 + s3.2))) 1)))) (rv_move rfl) (st (v := (I (w64 ((wk .i64 (gshr .u64 (wk .u64 (w64 (s3.1 + s3.2))) 1)) + 1)))) (rv_add (a := (wk .i64 (gshr .u64 (wk .u64 (w64 (s3.1 + s3.2))) 1))) (b := 1) rfl rfl) (st (v := (I (w64 ((wk .i64 (gshr .u64 (wk .u64 (w64 (s3.1 + s3.2))) 1)) + 1)))) (rv_assign rfl) (w_end (q_blk (q_then ?_))))))
      obtain rfl := Option.some.inj h
      exact ⟨_, rfl, _, σ23, fr_join ⟨rfl, rfl, rfl, rfl, rfl, trivial⟩, rfl, H.sel' [2, 3, 0, 4, 1] rfl rfl⟩
     ·replace h := bif_f hb24 h
      refine rg (st (v := (I (wk .i64 (gshr .u64 (wk .u64 (w64 (s3.1 + s3.2))) 1)))) (rv_move rfl) (st (v := (I (wk .i64 (gshr .u64 (wk .u64 (w64 (s3.1 + s3.2))) 1)))) (rv_assign rfl) (w_end (q_blk (q_then ?_)))))
      obtain rfl := Option.some.inj h
      exact ⟨_, rfl, _, σ23, fr_join ⟨rfl, rfl, rfl, rfl, rfl, trivial⟩, rfl, H.sel' [2, 3, 0, 4, 1] rfl rfl⟩
    ·replace h := bif_f hb5 h
     refine c_exit (q_then_x (q_then_x (q_blk_hit ?_)))
     obtain rfl := Option.some.inj h
     obtain rfl := hres _ rfl
     exact ⟨rfl, _, σ4, fr_join ⟨rfl, rfl, rfl, rfl, trivial⟩, rfl, H.sel' [0, 1, 2, 3, 4] rfl rfl⟩
   ·clear hj
    have h := h'
    clear h' H
    rintro e a w ⟨rfl, ρ, σ25, rfl, rfl, H⟩
    refine q_then (c_seq (c_seq (rg (st (v := (I Ax)) (rv_move rfl) (st (v := (I Ax)) (rv_assign rfl) (w_end (q_then ?_)))))))
    obtain ⟨o26, hj, h'⟩ := bind_some h
    clear h
    refine c_cut (fun e a w => e = .normal ∧ ∃ (ρ : Nat → Value) (σ : St), a = fr 220 (updL ρ [(0, (Sl Cq o26 Cr)), (4, (.func (.func 89) #[] #[(pt Dq Dr), (pt Dx Dy)]))]) ∧ w = σ.w ∧ Hp S0 σ0 σ [Ch.own 0 0 (Sl Cq o26 Cr) o26, Ch.ro 0 (Sl Dm Dj Dn) Dj, Ch.bx Do Dq Dr [(Sl Dm Dj Dn)] Ds Dt, Ch.ro 0 (Sl Du Dk Dv) Dk, Ch.bx Dw Dx Dy [(Sl Du Dk Dv)] Dz Ea] ∧ o26.length = Cm.length) ?_ ?_
    ·clear h'
     rename _ = some o26 => h
     refine c_blk (wp_loopM _ h (fun s27 a w => ∃ (ρ : Nat → Value) (σ : St), a = fr 220 (updL ρ [(0, (Sl Cq s27.1 Cr)), (4, (.func (.func 89) #[] #[(pt Dq Dr), (pt Dx Dy)])), (10, (I o2)), (13, (I s27.2))]) ∧ w = σ.w ∧ Hp S0 σ0 σ [Ch.own 0 0 (Sl Cq s27.1 Cr) s27.1, Ch.ro 0 (Sl Dm Dj Dn) Dj, Ch.bx Do Dq Dr [(Sl Dm Dj Dn)] Ds Dt, Ch.ro 0 (Sl Du Dk Dv) Dk, Ch.bx Dw Dx Dy [(Sl Du Dk Dv)] Dz Ea] ∧ s27.1.length = Cm.length) ⟨_, σ25, fr_join ⟨rfl, rfl, rfl, rfl, trivial⟩, rfl, H.sel' [0, 1, 2, 3, 4] rfl rfl, rfl⟩ ?_)
     clear h H
     rintro s27 a w o ⟨ρ, σ28, rfl, rfl, H, hn29⟩ h hres
     refine c_seq (c_seq (rg (st (v := (I s27.2)) (rv_move rfl) (st (v := (I o2)) (rv_move rfl) (st (v := (I (w64 (o2 - 1)))) (rv_sub (a := o2) (b := 1) rfl rfl) (st (v := (B (decide (s27.2 < (w64 (o2 - 1)))))) (rv_lss (a := s27.2) (b := (w64 (o2 - 1))) rfl rfl) (w_end (q_then ?_))))))))
     refine cd_cond (decide (s27.2 < (w64 (o2 - 1)))) rfl (fun hb30 => ?_) (fun hb30 => ?_)
     ·replace h := bif_t hb30 h
      refine c_skip (q_then (c_seq (c_blk ?_)))
      obtain ⟨x31, hx32, h'⟩ := bind_some h
      clear h
      have h := h'; clear h'
      obtain ⟨b34, o35, hi33, -⟩ := (H.own 0 rfl).ix hx32
      have hc36 := ((H.own 0 rfl).at hx32 hi33).int
      obtain ⟨x37, hx38, h'⟩ := bind_some h
      clear h
      have h := h'; clear h'
      obtain ⟨b40, o41, hi39, -⟩ := (H.own 0 rfl).ix hx38
      have hc42 := ((H.own 0 rfl).at hx38 hi39).int
      obtain ⟨x43, hx44, h'⟩ := bind_some h
      clear h
      have h := h'; clear h'
      obtain ⟨b46, o47, hi45, -⟩ := (H.own 0 rfl).ix hx44
      have Hs := H
      refine rg2 (σ := σ28) (Nm := Unit) 16 [15] [[false], [true]] [[(0, 0)], [(0, 0)], [(0, 0), (1, 1)], [(0, 0), (1, 1)], [(0, 0), (1, 1)], [(0, 0)], [(0, 0)], [(0, 0)], [(0, 0)], [(0, 0)], [(0, 0)], [(0, 0)], [(0, 0)], [(0, 0)], [(0, 0)], [(0, 1)]] 1 [fun _ => fun σm => Hp S0 σ0 σm [Ch.own 0 0 (Sl Cq s27.1 Cr) s27.1, Ch.ro 0 (Sl Dm Dj Dn) Dj, Ch.bx Do Dq Dr [(Sl Dm Dj Dn)] Ds Dt, Ch.ro 0 (Sl Du Dk Dv) Dk, Ch.bx Dw Dx Dy [(Sl Du Dk Dv)] Dz Ea] ∧ Md (cov []) σ28 σm, fun _ => fun σm => Hp S0 σ0 σm [Ch.own 0 0 (Sl Cq s27.1 Cr) (s27.1.set s27.2.toNat x31), Ch.ro 0 (Sl Dm Dj Dn) Dj, Ch.bx Do Dq Dr [(Sl Dm Dj Dn)] Ds Dt, Ch.ro 0 (Sl Du Dk Dv) Dk, Ch.bx Dw Dx Dy [(Sl Du Dk Dv)] Dz Ea] ∧ Md (fun i => (cov []) i ∨ (fun b => blk (Sl Cq s27.1 Cr) = some b) i) σ28 σm] [fun _ => (Sl Cq s27.1 Cr), fun _ => (I s27.2), fun _ => (Sl Cq s27.1 Cr), fun _ => (I s27.2), fun _ => (I (w64 (s27.2 + 1))), fun _ => (Sl Cq s27.1 Cr), fun _ => (I s27.2), fun _ => (I (w64 (s27.2 + 1))), fun _ => (pt b34 o35), fun _ => (I x31), fun _ => (Sl Cq s27.1 Cr), fun _ => (I s27.2), fun _ => (pt b40 o41), fun _ => (I x37), fun _ => (pt b46 o47), fun _ => undef] () (by kernel_rfl) (by kernel_rfl) ?_ ?_ ?_
      ·intro σm m0
       exact ⟨H.grow (m0.mono fun _ h => h.elim), m0⟩
      ·refine ac rfl (by
         intro k _nm ρ σm hJ hoff hdep
         have e0 := look_off (N := 220) (hoff 0 rfl) rfl
         exact dp_v (v := (Sl Cq s27.1 Cr)) wn (rv_move e0) rfl hJ) ?_
       refine ac rfl (by
         intro k _nm ρ σm hJ hoff hdep
         have e13 := look_off (N := 220) (hoff 13 rfl) rfl
         exact dp_v (v := (I s27.2)) wn (rv_move e13) rfl hJ) ?_
       refine ac rfl (by
         intro k _nm ρ σm hJ hoff hdep
         have e0 := look_off (N := 220) (hoff 0 rfl) rfl
         exact dp_v (v := (Sl Cq s27.1 Cr)) wn (rv_move e0) rfl hJ) ?_
       refine ac rfl (by
         intro k _nm ρ σm hJ hoff hdep
         have e13 := look_off (N := 220) (hoff 13 rfl) rfl
         exact dp_v (v := (I s27.2)) wn (rv_move e13) rfl hJ) ?_
       refine ac rfl (by
         intro k _nm ρ σm hJ hoff hdep
         have e64 := hdep 3 rfl rfl 64 rfl
         exact dp_v (v := (I (w64 (s27.2 + 1)))) wn (rv_add (a := s27.2) (b := 1) e64 rfl) rfl hJ) ?_
       refine ac rfl (by
         intro k _nm ρ σm hJ hoff hdep
         have e0 := look_off (N := 220) (hoff 0 rfl) rfl
         exact dp_v (v := (Sl Cq s27.1 Cr)) wn (rv_move e0) rfl hJ) ?_
       refine ac rfl (by
         intro k _nm ρ σm hJ hoff hdep
         have e13 := look_off (N := 220) (hoff 13 rfl) rfl
         exact dp_v (v := (I s27.2)) wn (rv_move e13) rfl hJ) ?_
       refine ac rfl (by
         intro k _nm ρ σm hJ hoff hdep
         have e67 := hdep 6 rfl rfl 67 rfl
         exact dp_v (v := (I (w64 (s27.2 + 1)))) wn (rv_add (a := s27.2) (b := 1) e67 rfl) rfl hJ) ?_
       refine ac rfl (by
         intro k _nm ρ σm hJ hoff hdep
         have e66 := hdep 5 rfl rfl 66 rfl
         have e68 := hdep 7 rfl rfl 68 rfl
         exact dp_v (v := (pt b34 o35)) wn (rv_ix Try.underlying23 ti3 e66 e68 hi33) rfl hJ) ?_
       refine all_cons (by
         refine ⟨?_, ?_⟩
         ·intro _nm ρ σm hJ hoff hdep
          have e69 := hdep 8 rfl rfl 69 rfl
          obtain ⟨H, m⟩ := id hJ
          have hc36 := ((H.own 0 rfl).at hx32 hi33).int
          exact dp_v (v := (I x31)) wn (rv_load1 Try.underlying3 rfl e69 hc36) rfl hJ
         trivial) ?_
       refine ac rfl (by
         intro k _nm ρ σm hJ hoff hdep
         have e0 := look_off (N := 220) (hoff 0 rfl) rfl
         exact dp_v (v := (Sl Cq s27.1 Cr)) wn (rv_move e0) rfl hJ) ?_
       refine ac rfl (by
         intro k _nm ρ σm hJ hoff hdep
         have e13 := look_off (N := 220) (hoff 13 rfl) rfl
         exact dp_v (v := (I s27.2)) wn (rv_move e13) rfl hJ) ?_
       refine ac rfl (by
         intro k _nm ρ σm hJ hoff hdep
         have e71 := hdep 10 rfl rfl 71 rfl
         have e72 := hdep 11 rfl rfl 72 rfl
         exact dp_v (v := (pt b40 o41)) wn (rv_ix Try.underlying23 ti3 e71 e72 hi39) rfl hJ) ?_
       refine all_cons (by
         refine ⟨?_, ?_⟩
         ·intro _nm ρ σm hJ hoff hdep
          have e73 := hdep 12 rfl rfl 73 rfl
          obtain ⟨H, m⟩ := id hJ
          have hc42 := ((H.own 0 rfl).at hx38 hi39).int
          exact dp_v (v := (I x37)) wn (rv_load1 Try.underlying3 rfl e73 hc42) rfl hJ
         trivial) ?_
       refine ac rfl (by
         intro k _nm ρ σm hJ hoff hdep
         have e61 := hdep 0 rfl rfl 61 rfl
         have e62 := hdep 1 rfl rfl 62 rfl
         exact dp_v (v := (pt b46 o47)) wn (rv_ix Try.underlying23 ti3 e61 e62 hi45) rfl hJ) ?_
       refine all_cons (by
         refine ⟨?_, ?_⟩
         ·intro _nm ρ σm hJ hoff hdep
          have e75 := hdep 14 rfl rfl 75 rfl
          have e70 := hdep 9 rfl rfl 70 rfl
          obtain ⟨H, m⟩ := id hJ
          refine dp_exS wn rfl (ex_store_own (e' := x31) (vs := [(I x31)]) (k := 0) H (i := 0) rfl ti3 hx44 hi45 e75 rfl e70 rfl rfl (Nat.le_of_ble_eq_true rfl) (by simp [plain]) (by rintro _ rfl; exact rfl)) ?_
          rintro σq ⟨H2, m2⟩
          exact ⟨_, (), rfl, ⟨H2.sel' [0, 1, 2, 3, 4] rfl rfl, m.comp m2⟩, stab [0, 1, 2, 3, 4, 5, 6, 7, 8, 9, 10, 11, 12, 13, 14] (by kernel_rfl) ⟨rfl, rfl, rfl, rfl, rfl, rfl, rfl, rfl, rfl, rfl, rfl, rfl, rfl, rfl, rfl, trivial⟩⟩
         trivial) ?_
       exact all_nil
      ·intro _nm ρ σ48 hJ hoff hrel
       have e0 := look_off (N := 220) (hoff 0 rfl) rfl
       have e4 := look_off (N := 220) (hoff 4 rfl) rfl
       have e10 := look_off (N := 220) (hoff 10 rfl) rfl
       have e13 := look_off (N := 220) (hoff 13 rfl) rfl
       have e63 := hrel 2 rfl 63 rfl
       have e65 := hrel 4 rfl 65 rfl
       have e74 := hrel 13 rfl 74 rfl
       obtain ⟨H, -⟩ := (show Hp S0 σ0 σ48 [Ch.own 0 0 (Sl Cq s27.1 Cr) (s27.1.set s27.2.toNat x31), Ch.ro 0 (Sl Dm Dj Dn) Dj, Ch.bx Do Dq Dr [(Sl Dm Dj Dn)] Ds Dt, Ch.ro 0 (Sl Du Dk Dv) Dk, Ch.bx Dw Dx Dy [(Sl Du Dk Dv)] Dz Ea] ∧ Md (fun i => (cov []) i ∨ (fun b => blk (Sl Cq s27.1 Cr) = some b) i) σ28 σ48 from hJ)
       clear hJ Hs
       rw [fr_lookL (L := [(0, (Sl Cq s27.1 Cr)), (4, (.func (.func 89) #[] #[(pt Dq Dr), (pt Dx Dy)])), (10, (I o2)), (13, (I s27.2)), (63, (Sl Cq s27.1 Cr)), (65, (I (w64 (s27.2 + 1)))), (74, (I x37))]) ⟨e0, e4, e10, e13, e63, e65, e74, trivial⟩]
       clear hoff hrel e0 e4 e10 e13 e63 e65 e74
       have hsl : (Sl Cq s27.1 Cr) = (Sl Cq (s27.1.set s27.2.toNat x31) Cr) := sl_len (by simp)
       rw [hsl]; rw [hsl] at H; clear hsl
       obtain ⟨x49, hx50, h'⟩ := bind_some h
       clear h
       have h := h'; clear h'
       obtain ⟨b52, o53, hi51, -⟩ := (H.own 0 rfl).ix hx50
       refine st (v := (pt b52 o53)) (rv_ix Try.underlying23 ti3 rfl rfl hi51) ?_
       refine st_exS (ex_store_own (e' := x37) (vs := [(I x37)]) (k := 0) H (i := 0) rfl ti3 hx50 hi51 rfl rfl rfl rfl rfl (Nat.le_of_ble_eq_true rfl) (by simp [plain]) (by rintro _ rfl; exact rfl)) wn ?_
       rintro σ54 ⟨H, -⟩
       have hsl : (Sl Cq (s27.1.set s27.2.toNat x31) Cr) = (Sl Cq ((s27.1.set s27.2.toNat x31).set (w64 (s27.2 + 1)).toNat x37) Cr) := sl_len List.length_set.symm
       rw [hsl]; rw [hsl] at H; clear hsl
       refine w_end (q_blk (q_then (rg (st (v := (I s27.2)) (rv_move rfl) (st (v := (I (w64 (s27.2 + 1)))) (rv_add (a := s27.2) (b := 1) rfl rfl) (st (v := (I (w64 (s27.2 + 1)))) (rv_assign rfl) (w_end (q_then ?_))))))))
       obtain rfl := Option.some.inj h
       exact ⟨_, rfl, _, σ54, fr_join ⟨rfl, rfl, rfl, rfl, trivial⟩, rfl, H.sel' [0, 1, 2, 3, 4] rfl rfl, (List.length_set.trans (List.length_set.trans hn29))⟩
     ·replace h := bif_f hb30 h
      refine c_exit (q_then_x (q_then_x (q_blk_hit ?_)))
      obtain rfl := Option.some.inj h
      obtain rfl := hres _ rfl
      exact ⟨rfl, _, σ28, fr_join ⟨rfl, rfl, trivial⟩, rfl, H.sel' [0, 1, 2, 3, 4] rfl rfl, hn29⟩
    ·clear hj
     have h := h'
     clear h' H
     rintro e a w ⟨rfl, ρ, σ55, rfl, rfl, H, hn56⟩
     refine q_then (c_ret (q_then_r ?_))
     obtain rfl := Option.some.inj h
     exact fin_ret (v := (.tuple #[])) (results_ok Try.results114 res_nil rfl) ⟨rfl, rfl, hn56⟩ (H.sel' [0, 2, 4] rfl rfl)
  ·replace h := bif_f hb1 h
   refine c_skip (q_then (c_seq (c_seq (rg (st (v := (I Ec)) (rv_move rfl) (st (v := (I Eb)) (rv_move rfl) (st (v := (I (w64 (Ec - Eb)))) (rv_sub (a := Ec) (b := Eb) rfl rfl) (st (v := (B ((w64 (Ec - Eb)) == 1))) (rv_eql (a := (w64 (Ec - Eb))) (b := 1) rfl rfl) (w_end (q_then ?_))))))))))
   refine cd_cond ((w64 (Ec - Eb)) == 1) rfl (fun hb57 => ?_) (fun hb57 => ?_)
   ·replace h := bif_t hb57 h
    refine c_seq (rg (st (v := (I Ax)) (rv_move rfl) (st (v := (I Ax)) (rv_assign rfl) (w_end (q_then (c_seq (rg (st (v := (I Eb)) (rv_move rfl) (st (v := (I Eb)) (rv_assign rfl) (w_end (q_then ?_)))))))))))
    refine c_seq ?_
    obtain ⟨o58, hj, h'⟩ := bind_some h
    clear h
    refine c_cut (fun e a w => e = .normal ∧ ∃ (ρ : Nat → Value) (σ : St), a = fr 220 (updL ρ [(0, (Sl Cq Cm Cr)), (2, (I Eb)), (4, (.func (.func 89) #[] #[(pt Dq Dr), (pt Dx Dy)])), (14, (I o58))]) ∧ w = σ.w ∧ Hp S0 σ0 σ [Ch.own 0 0 (Sl Cq Cm Cr) Cm, Ch.ro 0 (Sl Dm Dj Dn) Dj, Ch.bx Do Dq Dr [(Sl Dm Dj Dn)] Ds Dt, Ch.ro 0 (Sl Du Dk Dv) Dk, Ch.bx Dw Dx Dy [(Sl Du Dk Dv)] Dz Ea]) ?_ ?_
    ·clear h'
     rename _ = some o58 => h
     refine c_blk (wp_loopM _ h (fun s59 a w => ∃ (ρ : Nat → Value) (σ : St), a = fr 220 (updL ρ [(0, (Sl Cq Cm Cr)), (2, (I Eb)), (4, (.func (.func 89) #[] #[(pt Dq Dr), (pt Dx Dy)])), (14, (I s59.1)), (15, (I s59.2))]) ∧ w = σ.w ∧ Hp S0 σ0 σ [Ch.own 0 0 (Sl Cq Cm Cr) Cm, Ch.ro 0 (Sl Dm Dj Dn) Dj, Ch.bx Do Dq Dr [(Sl Dm Dj Dn)] Ds Dt, Ch.ro 0 (Sl Du Dk Dv) Dk, Ch.bx Dw Dx Dy [(Sl Du Dk Dv)] Dz Ea]) ⟨_, σ0, fr_join ⟨rfl, rfl, rfl, rfl, rfl, trivial⟩, rfl, H.sel' [0, 2, 1, 4, 3] rfl rfl⟩ ?_)
     clear h H
     rintro s59 a w o ⟨ρ, σ60, rfl, rfl, H⟩ h hres
     refine c_seq (c_seq (rg (st (v := (I s59.1)) (rv_move rfl) (st (v := (I s59.2)) (rv_move rfl) (st (v := (B (decide (s59.1 < s59.2)))) (rv_lss (a := s59.1) (b := s59.2) rfl rfl) (w_end (q_then ?_)))))))
     refine cd_cond (decide (s59.1 < s59.2)) rfl (fun hb61 => ?_) (fun hb61 => ?_)
     ·replace h := bif_t hb61 h
      refine c_skip (q_then (c_blk (c_seq (rg (st (v := (I s59.1)) (rv_move rfl) (st (v := (I s59.2)) (rv_move rfl) (st (v := (I (w64 (s59.1 + s59.2)))) (rv_add (a := s59.1) (b := s59.2) rfl rfl) (st (v := (.int .u64 (wk .u64 (w64 (s59.1 + s59.2))))) (rvk_conv (k := .i64) (k' := .u64) (a := (w64 (s59.1 + s59.2))) Try.underlying3 Try.underlying101 rfl) ?_))))))))
      refine st (v := (.int .u64 (gshr .u64 (wk .u64 (w64 (s59.1 + s59.2))) 1))) (rvk_shr (k := .u64) (k' := .u64) (a := (wk .u64 (w64 (s59.1 + s59.2)))) (b := 1) rfl rfl (by decide)) ?_
      refine st (v := (I (wk .i64 (gshr .u64 (wk .u64 (w64 (s59.1 + s59.2))) 1)))) (rvk_conv (k := .u64) (k' := .i64) (a := (gshr .u64 (wk .u64 (w64 (s59.1 + s59.2))) 1)) Try.underlying101 Try.underlying3 rfl) (st (v := (I (wk .i64 (gshr .u64 (wk .u64 (w64 (s59.1 + s59.2))) 1)))) (rv_assign rfl) (w_end (q_then (c_seq ?_))))
      refine rgP (σ := σ60) 9 (by kernel_rfl) (by kernel_rfl) (by kernel_rfl) ?_
      refine sq (v := (.func (.func 89) #[] #[(pt Dq Dr), (pt Dx Dy)])) (rv_move rfl) (sq (v := (Sl Cq Cm Cr)) (rv_move rfl) (sq (v := (I Eb)) (rv_move rfl) ?_))
      obtain ⟨x62, hx63, h'⟩ := bind_some h
      clear h
      have h := h'; clear h'
      obtain ⟨b65, o66, hi64, -⟩ := (H.own 0 rfl).ix hx63
      refine sq (v := (pt b65 o66)) (rv_ix Try.underlying23 ti3 rfl rfl hi64) ?_
      have hc67 := ((H.own 0 rfl).at hx63 hi64).int
      refine sq (v := (I x62)) (rv_load1 Try.underlying3 rfl rfl hc67) (sq (v := (Sl Cq Cm Cr)) (rv_move rfl) (sq (v := (I (wk .i64 (gshr .u64 (wk .u64 (w64 (s59.1 + s59.2))) 1)))) (rv_move rfl) ?_))
      obtain ⟨x68, hx69, h'⟩ := bind_some h
      clear h
      have h := h'; clear h'
      obtain ⟨b71, o72, hi70, -⟩ := (H.own 0 rfl).ix hx69
      refine sq (v := (pt b71 o72)) (rv_ix Try.underlying23 ti3 rfl rfl hi70) ?_
      have hc73 := ((H.own 0 rfl).at hx69 hi70).int
      refine sq (v := (I x68)) (rv_load1 Try.underlying3 rfl rfl hc73) (sq_end ?_)
      intro σ74 hm75
      replace H := H.grow (hm75.mono fun _ h => h); clear hm75
      obtain ⟨r76, hx77, h'⟩ := bind_some h
      clear h
      have h := h'; clear h'
      have hc78 := c_impl_ProbeOrder_1__p_SSint__p24 (Bz := Do) (Ca := Dq) (Cb := Dr) (Cc := Ds) (Cd := Dt) (Bw := Dm) (By := Dn) (Cg := Dw) (Ci := Dx) (Cj := Dy) (Ck := Dz) (Cl := Ea) (Ce := Du) (Cf := Dv) hx77
      refine st_call (cx_call hc78 (ent_v (cap := [(pt Dq Dr), (pt Dx Dy)]) hc78.fn rfl rfl) hn0 (H.sel' [2, 1, 4, 3, 0, 1, 3] rfl rfl : Hp S0 σ0 _ ([_, _, _, _] ++ _))) wn ?_
      rintro _ σ79 ⟨_, ⟨rfl, rfl⟩, H, -⟩
      replace H : Hp _ _ _ [_, _, _, _, _] := H
      refine st (v := (B (decide (r76 < 0)))) (rv_lss (a := r76) (b := 0) rfl rfl) (st (v := (B (!(decide (r76 < 0))))) (rv_not rfl) (w_end (q_then ?_)))
      refine cd_cond (!(decide (r76 < 0))) rfl (fun hb80 => ?_) (fun hb80 => ?_)
      ·replace h := bif_t hb80 h
       refine rg (st (v := (I (wk .i64 (gshr .u64 (wk .u64 (w64 (s59.1 + s59.2))) 1)))) (rv_move rfl) (st (v := (I (w64 ((wk .i64 (gshr .u64 (wk .u64 (w64 (s59.1 + s59.2))) 1)) + 1)))) (rv_add (a := (wk .i64 (gshr .u64 (wk .u64 (w64 (s59.1 + s59.2))) 1))) (b := 1) rfl rfl) (st (v := (I (w64 ((wk .i64 (gshr .u64 (wk .u64 (w64 (s59.1 + s59.2))) 1)) + 1)))) (rv_assign rfl) (w_end (q_blk (q_then ?_))))))
       obtain rfl := Option.some.inj h
       exact ⟨_, rfl, _, σ79, fr_join ⟨rfl, rfl, rfl, rfl, rfl, trivial⟩, rfl, H.sel' [2, 3, 0, 4, 1] rfl rfl⟩
      ·replace h := bif_f hb80 h
       refine rg (st (v := (I (wk .i64 (gshr .u64 (wk .u64 (w64 (s59.1 + s59.2))) 1)))) (rv_move rfl) (st (v := (I (wk .i64 (gshr .u64 (wk .u64 (w64 (s59.1 + s59.2))) 1)))) (rv_assign rfl) (w_end (q_blk (q_then ?_)))))
       obtain rfl := Option.some.inj h
       exact ⟨_, rfl, _, σ79, fr_join ⟨rfl, rfl, rfl, rfl, rfl, trivial⟩, rfl, H.sel' [2, 3, 0, 4, 1] rfl rfl⟩
     ·replace h := bif_f hb61 h
      refine c_exit (q_then_x (q_then_x (q_blk_hit ?_)))
      obtain rfl := Option.some.inj h
      obtain rfl := hres _ rfl
      exact ⟨rfl, _, σ60, fr_join ⟨rfl, rfl, rfl, rfl, trivial⟩, rfl, H.sel' [0, 1, 2, 3, 4] rfl rfl⟩
    ·clear hj
     have h := h'
     clear h' H
     rintro e a w ⟨rfl, ρ, σ81, rfl, rfl, H⟩
     refine q_then (c_seq (c_seq (rg (st (v := (I Eb)) (rv_move rfl) (st (v := (I Eb)) (rv_assign rfl) (w_end (q_then ?_)))))))
     obtain ⟨o82, hj, h'⟩ := bind_some h
     clear h
     refine c_cut (fun e a w => e = .normal ∧ ∃ (ρ : Nat → Value) (σ : St), a = fr 220 (updL ρ [(0, (Sl Cq o82 Cr)), (4, (.func (.func 89) #[] #[(pt Dq Dr), (pt Dx Dy)]))]) ∧ w = σ.w ∧ Hp S0 σ0 σ [Ch.own 0 0 (Sl Cq o82 Cr) o82, Ch.ro 0 (Sl Dm Dj Dn) Dj, Ch.bx Do Dq Dr [(Sl Dm Dj Dn)] Ds Dt, Ch.ro 0 (Sl Du Dk Dv) Dk, Ch.bx Dw Dx Dy [(Sl Du Dk Dv)] Dz Ea] ∧ o82.length = Cm.length) ?_ ?_
     ·clear h'
      rename _ = some o82 => h
      refine c_blk (wp_loopM _ h (fun s83 a w => ∃ (ρ : Nat → Value) (σ : St), a = fr 220 (updL ρ [(0, (Sl Cq s83.1 Cr)), (4, (.func (.func 89) #[] #[(pt Dq Dr), (pt Dx Dy)])), (14, (I o58)), (17, (I s83.2))]) ∧ w = σ.w ∧ Hp S0 σ0 σ [Ch.own 0 0 (Sl Cq s83.1 Cr) s83.1, Ch.ro 0 (Sl Dm Dj Dn) Dj, Ch.bx Do Dq Dr [(Sl Dm Dj Dn)] Ds Dt, Ch.ro 0 (Sl Du Dk Dv) Dk, Ch.bx Dw Dx Dy [(Sl Du Dk Dv)] Dz Ea] ∧ s83.1.length = Cm.length) ⟨_, σ81, fr_join ⟨rfl, rfl, rfl, rfl, trivial⟩, rfl, H.sel' [0, 1, 2, 3, 4] rfl rfl, rfl⟩ ?_)
      clear h H
      rintro s83 a w o ⟨ρ, σ84, rfl, rfl, H, hn85⟩ h hres
      refine c_seq (c_seq (rg (st (v := (I s83.2)) (rv_move rfl) (st (v := (I o58)) (rv_move rfl) (st (v := (B (decide (o58 < s83.2)))) (rv_gtr (a := s83.2) (b := o58) rfl rfl) (w_end (q_then ?_)))))))
      refine cd_cond (decide (o58 < s83.2)) rfl (fun hb86 => ?_) (fun hb86 => ?_)
      ·replace h := bif_t hb86 h
       refine c_skip (q_then (c_seq (c_blk ?_)))
       obtain ⟨x87, hx88, h'⟩ := bind_some h
       clear h
       have h := h'; clear h'
       obtain ⟨b90, o91, hi89, -⟩ := (H.own 0 rfl).ix hx88
       have hc92 := ((H.own 0 rfl).at hx88 hi89).int
       obtain ⟨x93, hx94, h'⟩ := bind_some h
       clear h
       have h := h'; clear h'
       obtain ⟨b96, o97, hi95, -⟩ := (H.own 0 rfl).ix hx94
       have hc98 := ((H.own 0 rfl).at hx94 hi95).int
       obtain ⟨x99, hx100, h'⟩ := bind_some h
       clear h
       have h := h'; clear h'
       obtain ⟨b102, o103, hi101, -⟩ := (H.own 0 rfl).ix hx100
       have Hs := H
       refine rg2 (σ := σ84) (Nm := Unit) 16 [15] [[false], [true]] [[(0, 0)], [(0, 0)], [(0, 0), (1, 1)], [(0, 0), (1, 1)], [(0, 0), (1, 1)], [(0, 0)], [(0, 0)], [(0, 0)], [(0, 0)], [(0, 0)], [(0, 0)], [(0, 0)], [(0, 0)], [(0, 0)], [(0, 0)], [(0, 1)]] 1 [fun _ => fun σm => Hp S0 σ0 σm [Ch.own 0 0 (Sl Cq s83.1 Cr) s83.1, Ch.ro 0 (Sl Dm Dj Dn) Dj, Ch.bx Do Dq Dr [(Sl Dm Dj Dn)] Ds Dt, Ch.ro 0 (Sl Du Dk Dv) Dk, Ch.bx Dw Dx Dy [(Sl Du Dk Dv)] Dz Ea] ∧ Md (cov []) σ84 σm, fun _ => fun σm => Hp S0 σ0 σm [Ch.own 0 0 (Sl Cq s83.1 Cr) (s83.1.set s83.2.toNat x87), Ch.ro 0 (Sl Dm Dj Dn) Dj, Ch.bx Do Dq Dr [(Sl Dm Dj Dn)] Ds Dt, Ch.ro 0 (Sl Du Dk Dv) Dk, Ch.bx Dw Dx Dy [(Sl Du Dk Dv)] Dz Ea] ∧ Md (fun i => (cov []) i ∨ (fun b => blk (Sl Cq s83.1 Cr) = some b) i) σ84 σm] [fun _ => (Sl Cq s83.1 Cr), fun _ => (I s83.2), fun _ => (Sl Cq s83.1 Cr), fun _ => (I s83.2), fun _ => (I (w64 (s83.2 - 1))), fun _ => (Sl Cq s83.1 Cr), fun _ => (I s83.2), fun _ => (I (w64 (s83.2 - 1))), fun _ => (pt b90 o91), fun _ => (I x87), fun _ => (Sl Cq s83.1 Cr), fun _ => (I s83.2), fun _ => (pt b96 o97), fun _ => (I x93), fun _ => (pt b102 o103), fun _ => undef] () (by kernel_rfl) (by kernel_rfl) ?_ ?_ ?_
       ·intro σm m0
        exact ⟨H.grow (m0.mono fun _ h => h.elim), m0⟩
       ·refine ac rfl (by
          intro k _nm ρ σm hJ hoff hdep
          have e0 := look_off (N := 220) (hoff 0 rfl) rfl
          exact dp_v (v := (Sl Cq s83.1 Cr)) wn (rv_move e0) rfl hJ) ?_
        refine ac rfl (by
          intro k _nm ρ σm hJ hoff hdep
          have e17 := look_off (N := 220) (hoff 17 rfl) rfl
          exact dp_v (v := (I s83.2)) wn (rv_move e17) rfl hJ) ?_
        refine ac rfl (by
          intro k _nm ρ σm hJ hoff hdep
          have e0 := look_off (N := 220) (hoff 0 rfl) rfl
          exact dp_v (v := (Sl Cq s83.1 Cr)) wn (rv_move e0) rfl hJ) ?_
        refine ac rfl (by
          intro k _nm ρ σm hJ hoff hdep
          have e17 := look_off (N := 220) (hoff 17 rfl) rfl
          exact dp_v (v := (I s83.2)) wn (rv_move e17) rfl hJ) ?_
        refine ac rfl (by
          intro k _nm ρ σm hJ hoff hdep
          have e116 := hdep 3 rfl rfl 116 rfl
          exact dp_v (v := (I (w64 (s83.2 - 1)))) wn (rv_sub (a := s83.2) (b := 1) e116 rfl) rfl hJ) ?_
        refine ac rfl (by
          intro k _nm ρ σm hJ hoff hdep
          have e0 := look_off (N := 220) (hoff 0 rfl) rfl
          exact dp_v (v := (Sl Cq s83.1 Cr)) wn (rv_move e0) rfl hJ) ?_
        refine ac rfl (by
          intro k _nm ρ σm hJ hoff hdep
          have e17 := look_off (N := 220) (hoff 17 rfl) rfl
          exact dp_v (v := (I s83.2)) wn (rv_move e17) rfl hJ) ?_
        refine ac rfl (by
          intro k _nm ρ σm hJ hoff hdep
          have e119 := hdep 6 rfl rfl 119 rfl
          exact dp_v (v := (I (w64 (s83.2 - 1)))) wn (rv_sub (a := s83.2) (b := 1) e119 rfl) rfl hJ) ?_
        refine ac rfl (by
          intro k _nm ρ σm hJ hoff hdep
          have e118 := hdep 5 rfl rfl 118 rfl
          have e120 := hdep 7 rfl rfl 120 rfl
          exact dp_v (v := (pt b90 o91)) wn (rv_ix Try.underlying23 ti3 e118 e120 hi89) rfl hJ) ?_
        refine all_cons (by
          refine ⟨?_, ?_⟩
          ·intro _nm ρ σm hJ hoff hdep
           have e121 := hdep 8 rfl rfl 121 rfl
           obtain ⟨H, m⟩ := id hJ
           have hc92 := ((H.own 0 rfl).at hx88 hi89).int
           exact dp_v (v := (I x87)) wn (rv_load1 Try.underlying3 rfl e121 hc92) rfl hJ
          trivial) ?_
        refine ac rfl (by
          intro k _nm ρ σm hJ hoff hdep
          have e0 := look_off (N := 220) (hoff 0 rfl) rfl
          exact dp_v (v := (Sl Cq s83.1 Cr)) wn (rv_move e0) rfl hJ) ?_
        refine ac rfl (by
          intro k _nm ρ σm hJ hoff hdep
          have e17 := look_off (N := 220) (hoff 17 rfl) rfl
          exact dp_v (v := (I s83.2)) wn (rv_move e17) rfl hJ) ?_
        refine ac rfl (by
          intro k _nm ρ σm hJ hoff hdep
          have e123 := hdep 10 rfl rfl 123 rfl
          have e124 := hdep 11 rfl rfl 124 rfl
          exact dp_v (v := (pt b96 o97)) wn (rv_ix Try.underlying23 ti3 e123 e124 hi95) rfl hJ) ?_
        refine all_cons (by
          refine ⟨?_, ?_⟩
          ·intro _nm ρ σm hJ hoff hdep
           have e125 := hdep 12 rfl rfl 125 rfl
           obtain ⟨H, m⟩ := id hJ
           have hc98 := ((H.own 0 rfl).at hx94 hi95).int
           exact dp_v (v := (I x93)) wn (rv_load1 Try.underlying3 rfl e125 hc98) rfl hJ
          trivial) ?_
        refine ac rfl (by
          intro k _nm ρ σm hJ hoff hdep
          have e113 := hdep 0 rfl rfl 113 rfl
          have e114 := hdep 1 rfl rfl 114 rfl
          exact dp_v (v := (pt b102 o103)) wn (rv_ix Try.underlying23 ti3 e113 e114 hi101) rfl hJ) ?_
        refine all_cons (by
          refine ⟨?_, ?_⟩
          ·intro _nm ρ σm hJ hoff hdep
           have e127 := hdep 14 rfl rfl 127 rfl
           have e122 := hdep 9 rfl rfl 122 rfl
           obtain ⟨H, m⟩ := id hJ
           refine dp_exS wn rfl (ex_store_own (e' := x87) (vs := [(I x87)]) (k := 0) H (i := 0) rfl ti3 hx100 hi101 e127 rfl e122 rfl rfl (Nat.le_of_ble_eq_true rfl) (by simp [plain]) (by rintro _ rfl; exact rfl)) ?_
           rintro σq ⟨H2, m2⟩
           exact ⟨_, (), rfl, ⟨H2.sel' [0, 1, 2, 3, 4] rfl rfl, m.comp m2⟩, stab [0, 1, 2, 3, 4, 5, 6, 7, 8, 9, 10, 11, 12, 13, 14] (by kernel_rfl) ⟨rfl, rfl, rfl, rfl, rfl, rfl, rfl, rfl, rfl, rfl, rfl, rfl, rfl, rfl, rfl, trivial⟩⟩
          trivial) ?_
        exact all_nil
       ·intro _nm ρ σ104 hJ hoff hrel
        have e0 := look_off (N := 220) (hoff 0 rfl) rfl
        have e4 := look_off (N := 220) (hoff 4 rfl) rfl
        have e14 := look_off (N := 220) (hoff 14 rfl) rfl
        have e17 := look_off (N := 220) (hoff 17 rfl) rfl
        have e115 := hrel 2 rfl 115 rfl
        have e117 := hrel 4 rfl 117 rfl
        have e126 := hrel 13 rfl 126 rfl
        obtain ⟨H, -⟩ := (show Hp S0 σ0 σ104 [Ch.own 0 0 (Sl Cq s83.1 Cr) (s83.1.set s83.2.toNat x87), Ch.ro 0 (Sl Dm Dj Dn) Dj, Ch.bx Do Dq Dr [(Sl Dm Dj Dn)] Ds Dt, Ch.ro 0 (Sl Du Dk Dv) Dk, Ch.bx Dw Dx Dy [(Sl Du Dk Dv)] Dz Ea] ∧ Md (fun i => (cov []) i ∨ (fun b => blk (Sl Cq s83.1 Cr) = some b) i) σ84 σ104 from hJ)
        clear hJ Hs
        rw [fr_lookL (L := [(0, (Sl Cq s83.1 Cr)), (4, (.func (.func 89) #[] #[(pt Dq Dr), (pt Dx Dy)])), (14, (I o58)), (17, (I s83.2)), (115, (Sl Cq s83.1 Cr)), (117, (I (w64 (s83.2 - 1)))), (126, (I x93))]) ⟨e0, e4, e14, e17, e115, e117, e126, trivial⟩]
        clear hoff hrel e0 e4 e14 e17 e115 e117 e126
        have hsl : (Sl Cq s83.1 Cr) = (Sl Cq (s83.1.set s83.2.toNat x87) Cr) := sl_len (by simp)
        rw [hsl]; rw [hsl] at H; clear hsl
        obtain ⟨x105, hx106, h'⟩ := bind_some h
        clear h
        have h := h'; clear h'
        obtain ⟨b108, o109, hi107, -⟩ := (H.own 0 rfl).ix hx106
        refine st (v := (pt b108 o109)) (rv_ix Try.underlying23 ti3 rfl rfl hi107) ?_
        refine st_exS (ex_store_own (e' := x93) (vs := [(I x93)]) (k := 0) H (i := 0) rfl ti3 hx106 hi107 rfl rfl rfl rfl rfl (Nat.le_of_ble_eq_true rfl) (by simp [plain]) (by rintro _ rfl; exact rfl)) wn ?_
        rintro σ110 ⟨H, -⟩
        have hsl : (Sl Cq (s83.1.set s83.2.toNat x87) Cr) = (Sl Cq ((s83.1.set s83.2.toNat x87).set (w64 (s83.2 - 1)).toNat x93) Cr) := sl_len List.length_set.symm
        rw [hsl]; rw [hsl] at H; clear hsl
        refine w_end (q_blk (q_then (rg (st (v := (I s83.2)) (rv_move rfl) (st (v := (I (w64 (s83.2 - 1)))) (rv_sub (a := s83.2) (b := 1) rfl rfl) (st (v := (I (w64 (s83.2 - 1)))) (rv_assign rfl) (w_end (q_then ?_))))))))
        obtain rfl := Option.some.inj h
        exact ⟨_, rfl, _, σ110, fr_join ⟨rfl, rfl, rfl, rfl, trivial⟩, rfl, H.sel' [0, 1, 2, 3, 4] rfl rfl, (List.length_set.trans (List.length_set.trans hn85))⟩
      ·replace h := bif_f hb86 h
       refine c_exit (q_then_x (q_then_x (q_blk_hit ?_)))
       obtain rfl := Option.some.inj h
       obtain rfl := hres _ rfl
       exact ⟨rfl, _, σ84, fr_join ⟨rfl, rfl, trivial⟩, rfl, H.sel' [0, 1, 2, 3, 4] rfl rfl, hn85⟩
     ·clear hj
      have h := h'
      clear h' H
      rintro e a w ⟨rfl, ρ, σ111, rfl, rfl, H, hn112⟩
      refine q_then (c_ret (q_then_r ?_))
      obtain rfl := Option.some.inj h
      exact fin_ret (v := (.tuple #[])) (results_ok Try.results114 res_nil rfl) ⟨rfl, rfl, hn112⟩ (H.sel' [0, 2, 4] rfl rfl)
   ·replace h := bif_f hb57 h
    refine c_skip (q_then (c_seq (rg (st (v := (I Ax)) (rv_move rfl) (st (v := (I Ec)) (rv_move rfl) (st (v := (I (w64 (Ax + Ec)))) (rv_add (a := Ax) (b := Ec) rfl rfl) (st (v := (.int .u64 (wk .u64 (w64 (Ax + Ec))))) (rvk_conv (k := .i64) (k' := .u64) (a := (w64 (Ax + Ec))) Try.underlying3 Try.underlying101 rfl) ?_)))))))
    refine st (v := (.int .u64 (gshr .u64 (wk .u64 (w64 (Ax + Ec))) 1))) (rvk_shr (k := .u64) (k' := .u64) (a := (wk .u64 (w64 (Ax + Ec)))) (b := 1) rfl rfl (by decide)) ?_
    refine st (v := (I (wk .i64 (gshr .u64 (wk .u64 (w64 (Ax + Ec))) 1)))) (rvk_conv (k := .u64) (k' := .i64) (a := (gshr .u64 (wk .u64 (w64 (Ax + Ec))) 1)) Try.underlying101 Try.underlying3 rfl) (st (v := (I (wk .i64 (gshr .u64 (wk .u64 (w64 (Ax + Ec))) 1)))) (rv_assign rfl) (w_end (q_then (c_seq (rg (st (v := (I (wk .i64 (gshr .u64 (wk .u64 (w64 (Ax + Ec))) 1)))) (rv_move rfl) (st (v := (I Eb)) (rv_move rfl) (st (v := (I (w64 ((wk .i64 (gshr .u64 (wk .u64 (w64 (Ax + Ec))) 1)) + Eb)))) (rv_add (a := (wk .i64 (gshr .u64 (wk .u64 (w64 (Ax + Ec))) 1))) (b := Eb) rfl rfl) (st (v := (I (w64 ((wk .i64 (gshr .u64 (wk .u64 (w64 (Ax + Ec))) 1)) + Eb)))) (rv_assign rfl) (w_end (q_then ?_)))))))))))
    refine c_seq (rg (st (v := (I 0)) (rv_assign rfl) (st (v := (I 0)) (rv_assign rfl) (w_end (q_then (c_seq (c_seq (rg (st (v := (I Eb)) (rv_move rfl) (st (v := (I (wk .i64 (gshr .u64 (wk .u64 (w64 (Ax + Ec))) 1)))) (rv_move rfl) (st (v := (B (decide ((wk .i64 (gshr .u64 (wk .u64 (w64 (Ax + Ec))) 1)) < Eb)))) (rv_gtr (a := Eb) (b := (wk .i64 (gshr .u64 (wk .u64 (w64 (Ax + Ec))) 1))) rfl rfl) ?_)))))))))))
    refine w_end (q_then ?_)
    obtain ⟨o113, hj, h'⟩ := bind_some h
    clear h
    refine c_cut (fun e a w => e = .normal ∧ ∃ (ρ : Nat → Value) (σ : St), a = fr 220 (updL ρ [(0, (Sl Cq Cm Cr)), (1, (I Ax)), (2, (I Eb)), (3, (I Ec)), (4, (.func (.func 89) #[] #[(pt Dq Dr), (pt Dx Dy)])), (18, (I (wk .i64 (gshr .u64 (wk .u64 (w64 (Ax + Ec))) 1)))), (19, (I (w64 ((wk .i64 (gshr .u64 (wk .u64 (w64 (Ax + Ec))) 1)) + Eb)))), (20, (I o113.1)), (21, (I o113.2))]) ∧ w = σ.w ∧ Hp S0 σ0 σ [Ch.own 0 0 (Sl Cq Cm Cr) Cm, Ch.ro 0 (Sl Dm Dj Dn) Dj, Ch.bx Do Dq Dr [(Sl Dm Dj Dn)] Ds Dt, Ch.ro 0 (Sl Du Dk Dv) Dk, Ch.bx Dw Dx Dy [(Sl Du Dk Dv)] Dz Ea]) ?_ ?_
    ·clear h'
     rename _ = some o113 => h
     refine cd_cond (decide ((wk .i64 (gshr .u64 (wk .u64 (w64 (Ax + Ec))) 1)) < Eb)) rfl (fun hb114 => ?_) (fun hb114 => ?_)
     ·replace h := bif_t hb114 h
      refine c_seq (rg (st (v := (I (w64 ((wk .i64 (gshr .u64 (wk .u64 (w64 (Ax + Ec))) 1)) + Eb)))) (rv_move rfl) (st (v := (I Ec)) (rv_move rfl) (st (v := (I (w64 ((w64 ((wk .i64 (gshr .u64 (wk .u64 (w64 (Ax + Ec))) 1)) + Eb)) - Ec)))) (rv_sub (a := (w64 ((wk .i64 (gshr .u64 (wk .u64 (w64 (Ax + Ec))) 1)) + Eb))) (b := Ec) rfl rfl) (st (v := (I (w64 ((w64 ((wk .i64 (gshr .u64 (wk .u64 (w64 (Ax + Ec))) 1)) + Eb)) - Ec)))) (rv_assign rfl) (w_end (q_then (rg (st (v := (I (wk .i64 (gshr .u64 (wk .u64 (w64 (Ax + Ec))) 1)))) (rv_move rfl) (st (v := (I (wk .i64 (gshr .u64 (wk .u64 (w64 (Ax + Ec))) 1)))) (rv_assign rfl) (w_end ?_)))))))))))
      obtain rfl := Option.some.inj h
      exact ⟨rfl, _, σ0, fr_join ⟨rfl, rfl, rfl, rfl, rfl, rfl, rfl, rfl, rfl, trivial⟩, rfl, H.sel' [0, 2, 1, 4, 3] rfl rfl⟩
     ·replace h := bif_f hb114 h
      refine c_seq (rg (st (v := (I Ax)) (rv_move rfl) (st (v := (I Ax)) (rv_assign rfl) (w_end (q_then (rg (st (v := (I Eb)) (rv_move rfl) (st (v := (I Eb)) (rv_assign rfl) (w_end ?_)))))))))
      obtain rfl := Option.some.inj h
      exact ⟨rfl, _, σ0, fr_join ⟨rfl, rfl, rfl, rfl, rfl, rfl, rfl, rfl, rfl, trivial⟩, rfl, H.sel' [0, 2, 1, 4, 3] rfl rfl⟩
    ·clear hj
     have h := h'
     clear h' H
     rintro e a w ⟨rfl, ρ, σ115, rfl, rfl, H⟩
     refine q_then (c_seq (rg (st (v := (I (w64 ((wk .i64 (gshr .u64 (wk .u64 (w64 (Ax + Ec))) 1)) + Eb)))) (rv_move rfl) (st (v := (I (w64 ((w64 ((wk .i64 (gshr .u64 (wk .u64 (w64 (Ax + Ec))) 1)) + Eb)) - 1)))) (rv_sub (a := (w64 ((wk .i64 (gshr .u64 (wk .u64 (w64 (Ax + Ec))) 1)) + Eb))) (b := 1) rfl rfl) (st (v := (I (w64 ((w64 ((wk .i64 (gshr .u64 (wk .u64 (w64 (Ax + Ec))) 1)) + Eb)) - 1)))) (rv_assign rfl) (w_end (q_then (c_seq ?_))))))))
     obtain ⟨o116, hj, h'⟩ := bind_some h
     clear h
     refine c_cut (fun e a w => e = .normal ∧ ∃ (ρ : Nat → Value) (σ : St), a = fr 220 (updL ρ [(0, (Sl Cq Cm Cr)), (1, (I Ax)), (2, (I Eb)), (3, (I Ec)), (4, (.func (.func 89) #[] #[(pt Dq Dr), (pt Dx Dy)])), (18, (I (wk .i64 (gshr .u64 (wk .u64 (w64 (Ax + Ec))) 1)))), (19, (I (w64 ((wk .i64 (gshr .u64 (wk .u64 (w64 (Ax + Ec))) 1)) + Eb)))), (20, (I o116))]) ∧ w = σ.w ∧ Hp S0 σ0 σ [Ch.own 0 0 (Sl Cq Cm Cr) Cm, Ch.ro 0 (Sl Dm Dj Dn) Dj, Ch.bx Do Dq Dr [(Sl Dm Dj Dn)] Ds Dt, Ch.ro 0 (Sl Du Dk Dv) Dk, Ch.bx Dw Dx Dy [(Sl Du Dk Dv)] Dz Ea]) ?_ ?_
     ·clear h'
      rename _ = some o116 => h
      refine c_blk (wp_loopM _ h (fun s117 a w => ∃ (ρ : Nat → Value) (σ : St), a = fr 220 (updL ρ [(0, (Sl Cq Cm Cr)), (1, (I Ax)), (2, (I Eb)), (3, (I Ec)), (4, (.func (.func 89) #[] #[(pt Dq Dr), (pt Dx Dy)])), (18, (I (wk .i64 (gshr .u64 (wk .u64 (w64 (Ax + Ec))) 1)))), (19, (I (w64 ((wk .i64 (gshr .u64 (wk .u64 (w64 (Ax + Ec))) 1)) + Eb)))), (20, (I s117.1)), (21, (I s117.2)), (22, (I (w64 ((w64 ((wk .i64 (gshr .u64 (wk .u64 (w64 (Ax + Ec))) 1)) + Eb)) - 1))))]) ∧ w = σ.w ∧ Hp S0 σ0 σ [Ch.own 0 0 (Sl Cq Cm Cr) Cm, Ch.ro 0 (Sl Dm Dj Dn) Dj, Ch.bx Do Dq Dr [(Sl Dm Dj Dn)] Ds Dt, Ch.ro 0 (Sl Du Dk Dv) Dk, Ch.bx Dw Dx Dy [(Sl Du Dk Dv)] Dz Ea]) ⟨_, σ115, fr_join ⟨rfl, rfl, rfl, rfl, rfl, rfl, rfl, rfl, rfl, rfl, trivial⟩, rfl, H.sel' [0, 1, 2, 3, 4] rfl rfl⟩ ?_)
      clear h H
      rintro s117 a w o ⟨ρ, σ118, rfl, rfl, H⟩ h hres
      refine c_seq (c_seq (rg (st (v := (I s117.1)) (rv_move rfl) (st (v := (I s117.2)) (rv_move rfl) (st (v := (B (decide (s117.1 < s117.2)))) (rv_lss (a := s117.1) (b := s117.2) rfl rfl) (w_end (q_then ?_)))))))
      refine cd_cond (decide (s117.1 < s117.2)) rfl (fun hb119 => ?_) (fun hb119 => ?_)
      ·replace h := bif_t hb119 h
       refine c_skip (q_then (c_blk (c_seq (rg (st (v := (I s117.1)) (rv_move rfl) (st (v := (I s117.2)) (rv_move rfl) (st (v := (I (w64 (s117.1 + s117.2)))) (rv_add (a := s117.1) (b := s117.2) rfl rfl) (st (v := (.int .u64 (wk .u64 (w64 (s117.1 + s117.2))))) (rvk_conv (k := .i64) (k' := .u64) (a := (w64 (s117.1 + s117.2))) Try.underlying3 Try.underlying101 rfl) ?_))))))))
       refine st (v := (.int .u64 (gshr .u64 (wk .u64 (w64 (s117.1 + s117.2))) 1))) (rvk_shr (k := .u64) (k' := .u64) (a := (wk .u64 (w64 (s117.1 + s117.2)))) (b := 1) rfl rfl (by decide)) ?_
       refine st (v := (I (wk .i64 (gshr .u64 (wk .u64 (w64 (s117.1 + s117.2))) 1)))) (rvk_conv (k := .u64) (k' := .i64) (a := (gshr .u64 (wk .u64 (w64 (s117.1 + s117.2))) 1)) Try.underlying101 Try.underlying3 rfl) (st (v := (I (wk .i64 (gshr .u64 (wk .u64 (w64 (s117.1 + s117.2))) 1)))) (rv_assign rfl) (w_end (q_then (c_seq ?_))))
       refine rgP (σ := σ118) 11 (by kernel_rfl) (by kernel_rfl) (by kernel_rfl) ?_
       refine sq (v := (.func (.func 89) #[] #[(pt Dq Dr), (pt Dx Dy)])) (rv_move rfl) (sq (v := (Sl Cq Cm Cr)) (rv_move rfl) (sq (v := (I (w64 ((w64 ((wk .i64 (gshr .u64 (wk .u64 (w64 (Ax + Ec))) 1)) + Eb)) - 1)))) (rv_move rfl) (sq (v := (I (wk .i64 (gshr .u64 (wk .u64 (w64 (s117.1 + s117.2))) 1)))) (rv_move rfl) (sq (v := (I (w64 ((w64 ((w64 ((wk .i64 (gshr .u64 (wk .u64 (w64 (Ax + Ec))) 1)) + Eb)) - 1)) - (wk .i64 (gshr .u64 (wk .u64 (w64 (s117.1 + s117.2))) 1)))))) (rv_sub (a := (w64 ((w64 ((wk .i64 (gshr .u64 (wk .u64 (w64 (Ax + Ec))) 1)) + Eb)) - 1))) (b := (wk .i64 (gshr .u64 (wk .u64 (w64 (s117.1 + s117.2))) 1))) rfl rfl) ?_))))
       obtain ⟨x120, hx121, h'⟩ := bind_some h
       clear h
       have h := h'; clear h'
       obtain ⟨b123, o124, hi122, -⟩ := (H.own 0 rfl).ix hx121
       refine sq (v := (pt b123 o124)) (rv_ix Try.underlying23 ti3 rfl rfl hi122) ?_
       have hc125 := ((H.own 0 rfl).at hx121 hi122).int
       refine sq (v := (I x120)) (rv_load1 Try.underlying3 rfl rfl hc125) (sq (v := (Sl Cq Cm Cr)) (rv_move rfl) (sq (v := (I (wk .i64 (gshr .u64 (wk .u64 (w64 (s117.1 + s117.2))) 1)))) (rv_move rfl) ?_))
       obtain ⟨x126, hx127, h'⟩ := bind_some h
       clear h
       have h := h'; clear h'
       obtain ⟨b129, o130, hi128, -⟩ := (H.own 0 rfl).ix hx127
       refine sq (v := (pt b129 o130)) (rv_ix Try.underlying23 ti3 rfl rfl hi128) ?_
       have hc131 := ((H.own 0 rfl).at hx127 hi128).int
       refine sq (v := (I x126)) (rv_load1 Try.underlying3 rfl rfl hc131) (sq_end ?_)
       intro σ132 hm133
       replace H := H.grow (hm133.mono fun _ h => h); clear hm133
       obtain ⟨r134, hx135, h'⟩ := bind_some h
       clear h
       have h := h'; clear h'
       have hc136 := c_impl_ProbeOrder_1__p_SSint__p24 (Bz := Do) (Ca := Dq) (Cb := Dr) (Cc := Ds) (Cd := Dt) (Bw := Dm) (By := Dn) (Cg := Dw) (Ci := Dx) (Cj := Dy) (Ck := Dz) (Cl := Ea) (Ce := Du) (Cf := Dv) hx135
       refine st_call (cx_call hc136 (ent_v (cap := [(pt Dq Dr), (pt Dx Dy)]) hc136.fn rfl rfl) hn0 (H.sel' [2, 1, 4, 3, 0, 1, 3] rfl rfl : Hp S0 σ0 _ ([_, _, _, _] ++ _))) wn ?_
       rintro _ σ137 ⟨_, ⟨rfl, rfl⟩, H, -⟩
       replace H : Hp _ _ _ [_, _, _, _, _] := H
       refine st (v := (B (decide (r134 < 0)))) (rv_lss (a := r134) (b := 0) rfl rfl) (st (v := (B (!(decide (r134 < 0))))) (rv_not rfl) (w_end (q_then ?_)))
       refine cd_cond (!(decide (r134 < 0))) rfl (fun hb138 => ?_) (fun hb138 => ?_)
       ·replace h := bif_t hb138 h
        refine rg (st (v := (I (wk .i64 (gshr .u64 (wk .u64 (w64 (s117.1 + s117.2))) 1)))) (rv_move rfl) (st (v := (I (w64 ((wk .i64 (gshr .u64 (wk .u64 (w64 (s117.1 + s117.2))) 1)) + 1)))) (rv_add (a := (wk .i64 (gshr .u64 (wk .u64 (w64 (s117.1 + s117.2))) 1))) (b := 1) rfl rfl) (st (v := (I (w64 ((wk .i64 (gshr .u64 (wk .u64 (w64 (s117.1 + s117.2))) 1)) + 1)))) (rv_assign rfl) (w_end (q_blk (q_then ?_))))))
        obtain rfl := Option.some.inj h
        exact ⟨_, rfl, _, σ137, fr_join ⟨rfl, rfl, rfl, rfl, rfl, rfl, rfl, rfl, rfl, rfl, trivial⟩, rfl, H.sel' [2, 3, 0, 4, 1] rfl rfl⟩
       ·replace h := bif_f hb138 h
        refine rg (st (v := (I (wk .i64 (gshr .u64 (wk .u64 (w64 (s117.1 + s117.2))) 1)))) (rv_move rfl) (st (v := (I (wk .i64 (gshr .u64 (wk .u64 (w64 (s117.1 + s117.2))) 1)))) (rv_assign rfl) (w_end (q_blk (q_then ?_)))))
        obtain rfl := Option.some.inj h
        exact ⟨_, rfl, _, σ137, fr_join ⟨rfl, rfl, rfl, rfl, rfl, rfl, rfl, rfl, rfl, rfl, trivial⟩, rfl, H.sel' [2, 3, 0, 4, 1] rfl rfl⟩
      ·replace h := bif_f hb119 h
       refine c_exit (q_then_x (q_then_x (q_blk_hit ?_)))
       obtain rfl := Option.some.inj h
       obtain rfl := hres _ rfl
       exact ⟨rfl, _, σ118, fr_join ⟨rfl, rfl, rfl, rfl, rfl, rfl, rfl, rfl, trivial⟩, rfl, H.sel' [0, 1, 2, 3, 4] rfl rfl⟩
     ·clear hj
      have h := h'
      clear h' H
      rintro e a w ⟨rfl, ρ, σ139, rfl, rfl, H⟩
      refine q_then (c_seq (rg (st (v := (I (w64 ((wk .i64 (gshr .u64 (wk .u64 (w64 (Ax + Ec))) 1)) + Eb)))) (rv_move rfl) (st (v := (I o116)) (rv_move rfl) (st (v := (I (w64 ((w64 ((wk .i64 (gshr .u64 (wk .u64 (w64 (Ax + Ec))) 1)) + Eb)) - o116)))) (rv_sub (a := (w64 ((wk .i64 (gshr .u64 (wk .u64 (w64 (Ax + Ec))) 1)) + Eb))) (b := o116) rfl rfl) (st (v := (I (w64 ((w64 ((wk .i64 (gshr .u64 (wk .u64 (w64 (Ax + Ec))) 1)) + Eb)) - o116)))) (rv_assign rfl) (w_end (q_then (c_seq (c_seq ?_))))))))))
      obtain ⟨o140, hj, h'⟩ := bind_some h
      clear h
      refine c_cut (fun e a w => e = .normal ∧ ∃ (ρ : Nat → Value) (σ : St), a = fr 220 (updL ρ [(0, (Sl Cq Cm Cr)), (1, (I Ax)), (2, (I Eb)), (3, (I Ec)), (4, (.func (.func 89) #[] #[(pt Dq Dr), (pt Dx Dy)])), (18, (I (wk .i64 (gshr .u64 (wk .u64 (w64 (Ax + Ec))) 1)))), (20, (I o116)), (24, (I (w64 ((w64 ((wk .i64 (gshr .u64 (wk .u64 (w64 (Ax + Ec))) 1)) + Eb)) - o116)))), (185, (B o140))]) ∧ w = σ.w ∧ Hp S0 σ0 σ [Ch.own 0 0 (Sl Cq Cm Cr) Cm, Ch.ro 0 (Sl Dm Dj Dn) Dj, Ch.bx Do Dq Dr [(Sl Dm Dj Dn)] Ds Dt, Ch.ro 0 (Sl Du Dk Dv) Dk, Ch.bx Dw Dx Dy [(Sl Du Dk Dv)] Dz Ea]) ?_ ?_
      ·clear h'
       rename _ = some o140 => h
       refine rg (st (v := (I o116)) (rv_move rfl) (st (v := (I Eb)) (rv_move rfl) (st (v := (B (decide (o116 < Eb)))) (rv_lss (a := o116) (b := Eb) rfl rfl) (st (v := (B (decide (o116 < Eb)))) (rv_move rfl) ?_))))
       rcases Bool.eq_false_or_eq_true (decide (o116 < Eb)) with hb141 | hb141
       ·replace h := bif_t hb141 h
        refine st_g (v := (I Eb)) (congrArg some hb141) (rv_move rfl) (st_g (v := (I (w64 ((w64 ((wk .i64 (gshr .u64 (wk .u64 (w64 (Ax + Ec))) 1)) + Eb)) - o116)))) (congrArg some hb141) (rv_move rfl) (st_g (v := (B (decide (Eb < (w64 ((w64 ((wk .i64 (gshr .u64 (wk .u64 (w64 (Ax + Ec))) 1)) + Eb)) - o116)))))) (congrArg some hb141) (rv_lss (a := Eb) (b := (w64 ((w64 ((wk .i64 (gshr .u64 (wk .u64 (w64 (Ax + Ec))) 1)) + Eb)) - o116))) rfl rfl) (st (v := (B (decide (Eb < (w64 ((w64 ((wk .i64 (gshr .u64 (wk .u64 (w64 (Ax + Ec))) 1)) + Eb)) - o116)))))) (rv_pick_t (congrArg B hb141) rfl) (w_end ?_))))
        obtain rfl := Option.some.inj h
        exact ⟨rfl, _, σ139, fr_join ⟨rfl, rfl, rfl, rfl, rfl, rfl, rfl, rfl, rfl, trivial⟩, rfl, H.sel' [0, 1, 2, 3, 4] rfl rfl⟩
       ·replace h := bif_f hb141 h
        refine st_skip (congrArg some hb141) (st_skip (congrArg some hb141) (st_skip (congrArg some hb141) (st (v := (B false)) (rv_pick_f (congrArg B hb141) rfl) (w_end ?_))))
        obtain rfl := Option.some.inj h
        exact ⟨rfl, _, σ139, fr_join ⟨rfl, rfl, rfl, rfl, rfl, rfl, rfl, rfl, rfl, trivial⟩, rfl, H.sel' [0, 1, 2, 3, 4] rfl rfl⟩
      ·clear hj
       have h := h'
       clear h' H
       rintro e a w ⟨rfl, ρ, σ142, rfl, rfl, H⟩
       refine q_then ?_
       obtain ⟨o143, hj, h'⟩ := bind_some h
       clear h
       refine c_cut (fun e a w => e = .normal ∧ ∃ (ρ : Nat → Value) (σ : St), a = fr 220 (updL ρ [(0, (Sl Cq o143 Cr)), (1, (I Ax)), (3, (I Ec)), (4, (.func (.func 89) #[] #[(pt Dq Dr), (pt Dx Dy)])), (18, (I (wk .i64 (gshr .u64 (wk .u64 (w64 (Ax + Ec))) 1)))), (20, (I o116)), (24, (I (w64 ((w64 ((wk .i64 (gshr .u64 (wk .u64 (w64 (Ax + Ec))) 1)) + Eb)) - o116))))]) ∧ w = σ.w ∧ Hp S0 σ0 σ [Ch.own 0 0 (Sl Cq o143 Cr) o143, Ch.ro 0 (Sl Dm Dj Dn) Dj, Ch.bx Do Dq Dr [(Sl Dm Dj Dn)] Ds Dt, Ch.ro 0 (Sl Du Dk Dv) Dk, Ch.bx Dw Dx Dy [(Sl Du Dk Dv)] Dz Ea] ∧ o143.length = Cm.length) ?_ ?_
       ·clear h'
        rename _ = some o143 => h
        refine cd_cond o140 rfl (fun hb144 => ?_) (fun hb144 => ?_)
        ·replace h := bif_t hb144 h
         refine rg (st (v := (Sl Cq Cm Cr)) (rv_move rfl) (st (v := (I o116)) (rv_move rfl) (st (v := (I Eb)) (rv_move rfl) (st (v := (I (w64 ((w64 ((wk .i64 (gshr .u64 (wk .u64 (w64 (Ax + Ec))) 1)) + Eb)) - o116)))) (rv_move rfl) (st (v := (.func (.func 89) #[] #[(pt Dq Dr), (pt Dx Dy)])) (rv_move rfl) ?_)))))
         obtain ⟨r145, hx146, h'⟩ := bind_some h
         clear h
         have h := h'; clear h'
         have hc147 := c_slices_rotateCmpFunc_int__impl_ProbeOrder_1 (Cq := Cq) (Cr := Cr) (Do := Do) (Dq := Dq) (Dr := Dr) (Ds := Ds) (Dt := Dt) (Dm := Dm) (Dn := Dn) (Dw := Dw) (Dx := Dx) (Dy := Dy) (Dz := Dz) (Ea := Ea) (Du := Du) (Dv := Dv) hx146
         refine st_call (cx_call hc147 (ent_f hc147.fn rfl) hn0 (H.sel' [0, 2, 1, 4, 3, 1, 3] rfl rfl : Hp S0 σ0 _ ([_, _, _, _, _] ++ _))) wn ?_
         rintro _ σ149 ⟨_, ⟨rfl, rfl, hn148⟩, H, -⟩
         replace H : Hp _ _ _ [_, _, _, _, _] := H
         have hsl : (Sl Cq Cm Cr) = (Sl Cq r145 Cr) := sl_len hn148.symm
         try rw [hsl]
         try rw [hsl] at H
         clear hsl
         refine w_end ?_
         obtain rfl := Option.some.inj h
         exact ⟨rfl, _, σ149, fr_join ⟨rfl, rfl, rfl, rfl, rfl, rfl, rfl, trivial⟩, rfl, H.sel' [0, 3, 1, 4, 2] rfl rfl, hn148⟩
        ·replace h := bif_f hb144 h
         refine c_skip ?_
         obtain rfl := Option.some.inj h
         exact ⟨rfl, _, σ142, fr_join ⟨rfl, rfl, rfl, rfl, rfl, rfl, rfl, trivial⟩, rfl, H.sel' [0, 1, 2, 3, 4] rfl rfl, rfl⟩
       ·clear hj
        have h := h'
        clear h' H
        rintro e a w ⟨rfl, ρ, σ150, rfl, rfl, H, hn151⟩
        refine q_then (c_seq (c_seq ?_))
        obtain ⟨o152, hj, h'⟩ := bind_some h
        clear h
        refine c_cut (fun e a w => e = .normal ∧ ∃ (ρ : Nat → Value) (σ : St), a = fr 220 (updL ρ [(0, (Sl Cq o143 Cr)), (1, (I Ax)), (3, (I Ec)), (4, (.func (.func 89) #[] #[(pt Dq Dr), (pt Dx Dy)])), (18, (I (wk .i64 (gshr .u64 (wk .u64 (w64 (Ax + Ec))) 1)))), (20, (I o116)), (24, (I (w64 ((w64 ((wk .i64 (gshr .u64 (wk .u64 (w64 (Ax + Ec))) 1)) + Eb)) - o116)))), (199, (B o152))]) ∧ w = σ.w ∧ Hp S0 σ0 σ [Ch.own 0 0 (Sl Cq o143 Cr) o143, Ch.ro 0 (Sl Dm Dj Dn) Dj, Ch.bx Do Dq Dr [(Sl Dm Dj Dn)] Ds Dt, Ch.ro 0 (Sl Du Dk Dv) Dk, Ch.bx Dw Dx Dy [(Sl Du Dk Dv)] Dz Ea]) ?_ ?_
        ·clear h'
         rename _ = some o152 => h
         refine rg (st (v := (I Ax)) (rv_move rfl) (st (v := (I o116)) (rv_move rfl) (st (v := (B (decide (Ax < o116)))) (rv_lss (a := Ax) (b := o116) rfl rfl) (st (v := (B (decide (Ax < o116)))) (rv_move rfl) ?_))))
         rcases Bool.eq_false_or_eq_true (decide (Ax < o116)) with hb153 | hb153
         ·replace h := bif_t hb153 h
          refine st_g (v := (I o116)) (congrArg some hb153) (rv_move rfl) (st_g (v := (I (wk .i64 (gshr .u64 (wk .u64 (w64 (Ax + Ec))) 1)))) (congrArg some hb153) (rv_move rfl) (st_g (v := (B (decide (o116 < (wk .i64 (gshr .u64 (wk .u64 (w64 (Ax + Ec))) 1)))))) (congrArg some hb153) (rv_lss (a := o116) (b := (wk .i64 (gshr .u64 (wk .u64 (w64 (Ax + Ec))) 1))) rfl rfl) (st (v := (B (decide (o116 < (wk .i64 (gshr .u64 (wk .u64 (w64 (Ax + Ec))) 1)))))) (rv_pick_t (congrArg B hb153) rfl) (w_end ?_))))
          obtain rfl := Option.some.inj h
          exact ⟨rfl, _, σ150, fr_join ⟨rfl, rfl, rfl, rfl, rfl, rfl, rfl, rfl, trivial⟩, rfl, H.sel' [0, 1, 2, 3, 4] rfl rfl⟩
         ·replace h := bif_f hb153 h
          refine st_skip (congrArg some hb153) (st_skip (congrArg some hb153) (st_skip (congrArg some hb153) (st (v := (B false)) (rv_pick_f (congrArg B hb153) rfl) (w_end ?_))))
          obtain rfl := Option.some.inj h
          exact ⟨rfl, _, σ150, fr_join ⟨rfl, rfl, rfl, rfl, rfl, rfl, rfl, rfl, trivial⟩, rfl, H.sel' [0, 1, 2, 3, 4] rfl rfl⟩
        ·clear hj
         have h := h'
         clear h' H
         rintro e a w ⟨rfl, ρ, σ154, rfl, rfl, H⟩
         refine q_then ?_
         obtain ⟨o155, hj, h'⟩ := bind_some h
         clear h
         refine c_cut (fun e a w => e = .normal ∧ ∃ (ρ : Nat → Value) (σ : St), a = fr 220 (updL ρ [(0, (Sl Cq o155 Cr)), (3, (I Ec)), (4, (.func (.func 89) #[] #[(pt Dq Dr), (pt Dx Dy)])), (18, (I (wk .i64 (gshr .u64 (wk .u64 (w64 (Ax + Ec))) 1)))), (24, (I (w64 ((w64 ((wk .i64 (gshr .u64 (wk .u64 (w64 (Ax + Ec))) 1)) + Eb)) - o116))))]) ∧ w = σ.w ∧ Hp S0 σ0 σ [Ch.own 0 0 (Sl Cq o155 Cr) o155, Ch.ro 0 (Sl Dm Dj Dn) Dj, Ch.bx Do Dq Dr [(Sl Dm Dj Dn)] Ds Dt, Ch.ro 0 (Sl Du Dk Dv) Dk, Ch.bx Dw Dx Dy [(Sl Du Dk Dv)] Dz Ea] ∧ o155.length = o143.length) ?_ ?_
         ·clear h'
          rename _ = some o155 => h
          refine cd_cond o152 rfl (fun hb156 => ?_) (fun hb156 => ?_)
          ·replace h := bif_t hb156 h
           refine rg (st (v := (Sl Cq o143 Cr)) (rv_move rfl) (st (v := (I Ax)) (rv_move rfl) (st (v := (I o116)) (rv_move rfl) (st (v := (I (wk .i64 (gshr .u64 (wk .u64 (w64 (Ax + Ec))) 1)))) (rv_move rfl) (st (v := (.func (.func 89) #[] #[(pt Dq Dr), (pt Dx Dy)])) (rv_move rfl) ?_)))))
           obtain ⟨r157, hx158, h'⟩ := bind_some h
           clear h
           have h := h'; clear h'
           have hc159 := ih (Cq := Cq) (Cr := Cr) (Do := Do) (Dq := Dq) (Dr := Dr) (Ds := Ds) (Dt := Dt) (Dm := Dm) (Dn := Dn) (Dw := Dw) (Dx := Dx) (Dy := Dy) (Dz := Dz) (Ea := Ea) (Du := Du) (Dv := Dv) hx158
           refine st_call (cx_call hc159 (ent_f hc159.fn rfl) hn0 (H.sel' [0, 2, 1, 4, 3, 1, 3] rfl rfl : Hp S0 σ0 _ ([_, _, _, _, _] ++ _))) wn ?_
           rintro _ σ161 ⟨_, ⟨rfl, rfl, hn160⟩, H, -⟩
           replace H : Hp _ _ _ [_, _, _, _, _] := H
           have hsl : (Sl Cq o143 Cr) = (Sl Cq r157 Cr) := sl_len hn160.symm
           try rw [hsl]
           try rw [hsl] at H
           clear hsl
           refine w_end ?_
           obtain rfl := Option.some.inj h
           exact ⟨rfl, _, σ161, fr_join ⟨rfl, rfl, rfl, rfl, rfl, trivial⟩, rfl, H.sel' [0, 3, 1, 4, 2] rfl rfl, ((hn160.trans hn151).trans hn151.symm)⟩
          ·replace h := bif_f hb156 h
           refine c_skip ?_
           obtain rfl := Option.some.inj h
           exact ⟨rfl, _, σ154, fr_join ⟨rfl, rfl, rfl, rfl, rfl, trivial⟩, rfl, H.sel' [0, 1, 2, 3, 4] rfl rfl, rfl⟩
         ·clear hj
          have h := h'
          clear h' H
          rintro e a w ⟨rfl, ρ, σ162, rfl, rfl, H, hn163⟩
          refine q_then (c_seq ?_)
          obtain ⟨o164, hj, h'⟩ := bind_some h
          clear h
          refine c_cut (fun e a w => e = .normal ∧ ∃ (ρ : Nat → Value) (σ : St), a = fr 220 (updL ρ [(0, (Sl Cq o155 Cr)), (3, (I Ec)), (4, (.func (.func 89) #[] #[(pt Dq Dr), (pt Dx Dy)])), (18, (I (wk .i64 (gshr .u64 (wk .u64 (w64 (Ax + Ec))) 1)))), (24, (I (w64 ((w64 ((wk .i64 (gshr .u64 (wk .u64 (w64 (Ax + Ec))) 1)) + Eb)) - o116)))), (213, (B o164))]) ∧ w = σ.w ∧ Hp S0 σ0 σ [Ch.own 0 0 (Sl Cq o155 Cr) o155, Ch.ro 0 (Sl Dm Dj Dn) Dj, Ch.bx Do Dq Dr [(Sl Dm Dj Dn)] Ds Dt, Ch.ro 0 (Sl Du Dk Dv) Dk, Ch.bx Dw Dx Dy [(Sl Du Dk Dv)] Dz Ea]) ?_ ?_
          ·clear h'
           rename _ = some o164 => h
           refine rg (st (v := (I (wk .i64 (gshr .u64 (wk .u64 (w64 (Ax + Ec))) 1)))) (rv_move rfl) (st (v := (I (w64 ((w64 ((wk .i64 (gshr .u64 (wk .u64 (w64 (Ax + Ec))) 1)) + Eb)) - o116)))) (rv_move rfl) (st (v := (B (decide ((wk .i64 (gshr .u64 (wk .u64 (w64 (Ax + Ec))) 1)) < (w64 ((w64 ((wk .i64 (gshr .u64 (wk .u64 (w64 (Ax + Ec))) 1)) + Eb)) - o116)))))) (rv_lss (a := (wk .i64 (gshr .u64 (wk .u64 (w64 (Ax + Ec))) 1))) (b := (w64 ((w64 ((wk .i64 (gshr .u64 (wk .u64 (w64 (Ax + Ec))) 1)) + Eb)) - o116))) rfl rfl) (st (v := (B (decide ((wk .i64 (gshr .u64 (wk .u64 (w64 (Ax + Ec))) 1)) < (w64 ((w64 ((wk .i64 (gshr .u64 (wk .u64 (w64 (Ax + Ec))) 1)) + Eb)) - o116)))))) (rv_move rfl) ?_))))
           rcases Bool.eq_false_or_eq_true (decide ((wk .i64 (gshr .u64 (wk .u64 (w64 (Ax + Ec))) 1)) < (w64 ((w64 ((wk .i64 (gshr .u64 (wk .u64 (w64 (Ax + Ec))) 1)) + Eb)) - o116)))) with hb165 | hb165
           ·replace h := bif_t hb165 h
            refine st_g (v := (I (w64 ((w64 ((wk .i64 (gshr .u64 (wk .u64 (w64 (Ax + Ec))) 1)) + Eb)) - o116)))) (congrArg some hb165) (rv_move rfl) (st_g (v := (I Ec)) (congrArg some hb165) (rv_move rfl) (st_g (v := (B (decide ((w64 ((w64 ((wk .i64 (gshr .u64 (wk .u64 (w64 (Ax + Ec))) 1)) + Eb)) - o116)) < Ec)))) (congrArg some hb165) (rv_lss (a := (w64 ((w64 ((wk .i64 (gshr .u64 (wk .u64 (w64 (Ax + Ec))) 1)) + Eb)) - o116))) (b := Ec) rfl rfl) (st (v := (B (decide ((w64 ((w64 ((wk .i64 (gshr .u64 (wk .u64 (w64 (Ax + Ec))) 1)) + Eb)) - o116)) < Ec)))) (rv_pick_t (congrArg B hb165) rfl) (w_end ?_))))
            obtain rfl := Option.some.inj h
            exact ⟨rfl, _, σ162, fr_join ⟨rfl, rfl, rfl, rfl, rfl, rfl, trivial⟩, rfl, H.sel' [0, 1, 2, 3, 4] rfl rfl⟩
           ·replace h := bif_f hb165 h
            refine st_skip (congrArg some hb165) (st_skip (congrArg some hb165) (st_skip (congrArg some hb165) (st (v := (B false)) (rv_pick_f (congrArg B hb165) rfl) (w_end ?_))))
            obtain rfl := Option.some.inj h
            exact ⟨rfl, _, σ162, fr_join ⟨rfl, rfl, rfl, rfl, rfl, rfl, trivial⟩, rfl, H.sel' [0, 1, 2, 3, 4] rfl rfl⟩
          ·clear hj
           have h := h'
           clear h' H
           rintro e a w ⟨rfl, ρ, σ166, rfl, rfl, H⟩
           refine q_then ?_
           refine cd_cond o164 rfl (fun hb167 => ?_) (fun hb167 => ?_)
           ·replace h := bif_t hb167 h
            refine rg (st (v := (Sl Cq o155 Cr)) (rv_move rfl) (st (v := (I (wk .i64 (gshr .u64 (wk .u64 (w64 (Ax + Ec))) 1)))) (rv_move rfl) (st (v := (I (w64 ((w64 ((wk .i64 (gshr .u64 (wk .u64 (w64 (Ax + Ec))) 1)) + Eb)) - o116)))) (rv_move rfl) (st (v := (I Ec)) (rv_move rfl) (st (v := (.func (.func 89) #[] #[(pt Dq Dr), (pt Dx Dy)])) (rv_move rfl) ?_)))))
            obtain ⟨r168, hx169, h'⟩ := bind_some h
            clear h
            have h := h'; clear h'
            have hc170 := ih (Cq := Cq) (Cr := Cr) (Do := Do) (Dq := Dq) (Dr := Dr) (Ds := Ds) (Dt := Dt) (Dm := Dm) (Dn := Dn) (Dw := Dw) (Dx := Dx) (Dy := Dy) (Dz := Dz) (Ea := Ea) (Du := Du) (Dv := Dv) hx169
            refine st_call (cx_call hc170 (ent_f hc170.fn rfl) hn0 (H.sel' [0, 2, 1, 4, 3, 1, 3] rfl rfl : Hp S0 σ0 _ ([_, _, _, _, _] ++ _))) wn ?_
            rintro _ σ172 ⟨_, ⟨rfl, rfl, hn171⟩, H, -⟩
            replace H : Hp _ _ _ [_, _, _, _, _] := H
            have hsl : (Sl Cq o155 Cr) = (Sl Cq r168 Cr) := sl_len hn171.symm
            try rw [hsl]
            try rw [hsl] at H
            clear hsl
            refine w_end ?_
            obtain rfl := Option.some.inj h
            exact fin_end (v := (.tuple #[])) (results_ok Try.results114 res_nil rfl) ⟨rfl, rfl, (hn171.trans (hn163.trans hn151))⟩ (H.sel' [0, 1, 2] rfl rfl)
           ·replace h := bif_f hb167 h
            refine c_skip ?_
            obtain rfl := Option.some.inj h
            exact fin_end (v := (.tuple #[])) (results_ok Try.results114 res_nil rfl) ⟨rfl, rfl, (hn163.trans hn151)⟩ (H.sel' [0, 2, 4] rfl rfl)

theorem c_slices_stableCmpFunc_int__impl_ProbeOrder_1 {Cm : List Int} {Ed : Int} {Ee : List (List Int)} {Ef : List Int} {Cq : Option Addr} {Cr : Nat} {Eg : Option Addr} {Eh : Nat} {Ei Ej Ek : Nat} {El Em : List Value} {En : Option Addr} {Eo : Nat} {Ep Er Es : Nat} {Et Eu : List Value} {r : (List Int)} (h : M.slices_stableCmpFunc_int__impl_ProbeOrder_1 Cm Ed Ee Ef = some r) :
    Cal2 Try.prog 107 [(Sl Cq Cm Cr), (I Ed), (.func (.func 89) #[] #[(pt Ej Ek), (pt Er Es)])] [Ch.own 0 0 (Sl Cq Cm Cr) Cm, Ch.bx Ei Ej Ek [(Sl Eg Ee Eh)] El Em, Ch.ro 0 (Sl Eg Ee Eh) Ee, Ch.bx Ep Er Es [(Sl En Ef Eo)] Et Eu, Ch.ro 0 (Sl En Ef Eo) Ef] (fun n0 v L => v = (.tuple #[]) ∧ L = [Ch.own 0 0 (Sl Cq r Cr) r, Ch.bx Ei Ej Ek [(Sl Eg Ee Eh)] El Em, Ch.bx Ep Er Es [(Sl En Ef Eo)] Et Eu] ∧ r.length = Cm.length) := by
 refine cal2 (n := 63) Try.func107 rfl rfl rfl rfl ?_
 intro S0 σ0 n0 hn0 H
 unfold M.slices_stableCmpFunc_int__impl_ProbeOrder_1 at h
 refine c_seq (rg (st (v := (I 20)) (rv_assign rfl) (w_end (q_then (c_seq (rg (st (v := (I 20)) (rv_move rfl) (st (v := (I 0)) (rv_assign rfl) (st (v := (I 20)) (rv_assign rfl) (w_end (q_then ?_)))))))))))
 refine c_seq ?_
 obtain ⟨o1, hj, h'⟩ := bind_some h
 clear h
 refine c_cut (fun e a w => e = .normal ∧ ∃ (ρ : Nat → Value) (σ : St), a = fr 63 (updL ρ [(0, (Sl Cq o1.1 Cr)), (1, (I Ed)), (2, (.func (.func 89) #[] #[(pt Ej Ek), (pt Er Es)])), (6, (I 20)), (7, (I o1.2))]) ∧ w = σ.w ∧ Hp S0 σ0 σ [Ch.own 0 0 (Sl Cq o1.1 Cr) o1.1, Ch.ro 0 (Sl Eg Ee Eh) Ee, Ch.bx Ei Ej Ek [(Sl Eg Ee Eh)] El Em, Ch.ro 0 (Sl En Ef Eo) Ef, Ch.bx Ep Er Es [(Sl En Ef Eo)] Et Eu] ∧ o1.1.length = Cm.length) ?_ ?_
 ·clear h'
  rename _ = some o1 => h
  refine c_blk (wp_loopM _ h (fun s2 a w => ∃ (ρ : Nat → Value) (σ : St), a = fr 63 (updL ρ [(0, (Sl Cq s2.1 Cr)), (1, (I Ed)), (2, (.func (.func 89) #[] #[(pt Ej Ek), (pt Er Es)])), (6, (I 20)), (7, (I s2.2.1)), (8, (I s2.2.2))]) ∧ w = σ.w ∧ Hp S0 σ0 σ [Ch.own 0 0 (Sl Cq s2.1 Cr) s2.1, Ch.ro 0 (Sl Eg Ee Eh) Ee, Ch.bx Ei Ej Ek [(Sl Eg Ee Eh)] El Em, Ch.ro 0 (Sl En Ef Eo) Ef, Ch.bx Ep Er Es [(Sl En Ef Eo)] Et Eu] ∧ s2.1.length = Cm.length) ⟨_, σ0, fr_join ⟨rfl, rfl, rfl, rfl, rfl, rfl, trivial⟩, rfl, H.sel' [0, 2, 1, 4, 3] rfl rfl, rfl⟩ ?_)
  clear h H
  rintro s2 a w o ⟨ρ, σ3, rfl, rfl, H, hn4⟩ h hres
  refine c_seq (c_seq (rg (st (v := (I s2.2.2)) (rv_move rfl) (st (v := (I Ed)) (rv_move rfl) (st (v := (B (decide (s2.2.2 ≤ Ed)))) (rv_leq (a := s2.2.2) (b := Ed) rfl rfl) (w_end (q_then ?_)))))))
  refine cd_cond (decide (s2.2.2 ≤ Ed)) rfl (fun hb5 => ?_) (fun hb5 => ?_)
  ·replace h := bif_t hb5 h
   refine c_skip (q_then (c_blk (c_seq (rg (st (v := (Sl Cq s2.1 Cr)) (rv_move rfl) (st (v := (I s2.2.1)) (rv_move rfl) (st (v := (I s2.2.2)) (rv_move rfl) (st (v := (.func (.func 89) #[] #[(pt Ej Ek), (pt Er Es)])) (rv_move rfl) ?_))))))))
   obtain ⟨r6, hx7, h'⟩ := bind_some h
   clear h
   have h := h'; clear h'
   have hc8 := c_slices_insertionSortCmpFunc_int__impl_ProbeOrder_1 (Cq := Cq) (Cr := Cr) (Cu := Ei) (Cv := Ej) (Cw := Ek) (Cy := El) (Cz := Em) (Cs := Eg) (Ct := Eh) (Dc := Ep) (Dd := Er) (De := Es) (Dg := Et) (Dh := Eu) (Da := En) (Db := Eo) hx7
   refine st_call (cx_call hc8 (ent_f hc8.fn rfl) hn0 (H.sel' [0, 2, 1, 4, 3, 1, 3] rfl rfl : Hp S0 σ0 _ ([_, _, _, _, _] ++ _))) wn ?_
   rintro _ σ10 ⟨_, ⟨rfl, rfl, hn9⟩, H, -⟩
   replace H : Hp _ _ _ [_, _, _, _, _] := H
   have hsl : (Sl Cq s2.1 Cr) = (Sl Cq r6 Cr) := sl_len hn9.symm
   try rw [hsl]
   try rw [hsl] at H
   clear hsl
   refine w_end (q_then (c_seq (rg (st (v := (I s2.2.2)) (rv_move rfl) (st (v := (I s2.2.2)) (rv_assign rfl) (w_end (q_then (rg (st (v := (I s2.2.2)) (rv_move rfl) (st (v := (I 20)) (rv_move rfl) (st (v := (I (w64 (s2.2.2 + 20)))) (rv_add (a := s2.2.2) (b := 20) rfl rfl) ?_)))))))))))
   refine st (v := (I (w64 (s2.2.2 + 20)))) (rv_assign rfl) (w_end (q_blk (q_then ?_)))
   obtain rfl := Option.some.inj h
   exact ⟨_, rfl, _, σ10, fr_join ⟨rfl, rfl, rfl, rfl, rfl, rfl, trivial⟩, rfl, H.sel' [0, 3, 1, 4, 2] rfl rfl, (hn9.trans hn4)⟩
  ·replace h := bif_f hb5 h
   refine c_exit (q_then_x (q_then_x (q_blk_hit ?_)))
   obtain rfl := Option.some.inj h
   obtain rfl := hres _ rfl
   exact ⟨rfl, _, σ3, fr_join ⟨rfl, rfl, rfl, rfl, rfl, trivial⟩, rfl, H.sel' [0, 1, 2, 3, 4] rfl rfl, hn4⟩
 ·clear hj
  have h := h'
  clear h' H
  rintro e a w ⟨rfl, ρ, σ11, rfl, rfl, H, hn12⟩
  refine q_then (c_seq (rg (st (v := (Sl Cq o1.1 Cr)) (rv_move rfl) (st (v := (I o1.2)) (rv_move rfl) (st (v := (I Ed)) (rv_move rfl) (st (v := (.func (.func 89) #[] #[(pt Ej Ek), (pt Er Es)])) (rv_move rfl) ?_))))))
  obtain ⟨r13, hx14, h'⟩ := bind_some h
  clear h
  have h := h'; clear h'
  have hc15 := c_slices_insertionSortCmpFunc_int__impl_ProbeOrder_1 (Cq := Cq) (Cr := Cr) (Cu := Ei) (Cv := Ej) (Cw := Ek) (Cy := El) (Cz := Em) (Cs := Eg) (Ct := Eh) (Dc := Ep) (Dd := Er) (De := Es) (Dg := Et) (Dh := Eu) (Da := En) (Db := Eo) hx14
  refine st_call (cx_call hc15 (ent_f hc15.fn rfl) hn0 (H.sel' [0, 2, 1, 4, 3, 1, 3] rfl rfl : Hp S0 σ0 _ ([_, _, _, _, _] ++ _))) wn ?_
  rintro _ σ17 ⟨_, ⟨rfl, rfl, hn16⟩, H, -⟩
  replace H : Hp _ _ _ [_, _, _, _, _] := H
  have hsl : (Sl Cq o1.1 Cr) = (Sl Cq r13 Cr) := sl_len hn16.symm
  try rw [hsl]
  try rw [hsl] at H
  clear hsl
  refine w_end (q_then ?_)
  obtain ⟨o18, hj, h'⟩ := bind_some h
  clear h
  refine c_cut (fun e a w => e = .normal ∧ ∃ (ρ : Nat → Value) (σ : St), a = fr 63 (updL ρ [(0, (Sl Cq o18 Cr)), (2, (.func (.func 89) #[] #[(pt Ej Ek), (pt Er Es)]))]) ∧ w = σ.w ∧ Hp S0 σ0 σ [Ch.own 0 0 (Sl Cq o18 Cr) o18, Ch.ro 0 (Sl Eg Ee Eh) Ee, Ch.bx Ei Ej Ek [(Sl Eg Ee Eh)] El Em, Ch.ro 0 (Sl En Ef Eo) Ef, Ch.bx Ep Er Es [(Sl En Ef Eo)] Et Eu] ∧ o18.length = r13.length) ?_ ?_
  ·clear h'
   rename _ = some o18 => h
   refine c_blk (wp_loopM _ h (fun s19 a w => ∃ (ρ : Nat → Value) (σ : St), a = fr 63 (updL ρ [(0, (Sl Cq s19.1 Cr)), (1, (I Ed)), (2, (.func (.func 89) #[] #[(pt Ej Ek), (pt Er Es)])), (6, (I s19.2))]) ∧ w = σ.w ∧ Hp S0 σ0 σ [Ch.own 0 0 (Sl Cq s19.1 Cr) s19.1, Ch.ro 0 (Sl Eg Ee Eh) Ee, Ch.bx Ei Ej Ek [(Sl Eg Ee Eh)] El Em, Ch.ro 0 (Sl En Ef Eo) Ef, Ch.bx Ep Er Es [(Sl En Ef Eo)] Et Eu] ∧ s19.1.length = r13.length) ⟨_, σ17, fr_join ⟨rfl, rfl, rfl, rfl, trivial⟩, rfl, H.sel' [0, 3, 1, 4, 2] rfl rfl, rfl⟩ ?_)
   clear h H
   rintro s19 a w o ⟨ρ, σ20, rfl, rfl, H, hn21⟩ h hres
   refine c_seq (c_seq (rg (st (v := (I s19.2)) (rv_move rfl) (st (v := (I Ed)) (rv_move rfl) (st (v := (B (decide (s19.2 < Ed)))) (rv_lss (a := s19.2) (b := Ed) rfl rfl) (w_end (q_then ?_)))))))
   refine cd_cond (decide (s19.2 < Ed)) rfl (fun hb22 => ?_) (fun hb22 => ?_)
   ·replace h := bif_t hb22 h
    refine c_skip (q_then (c_blk (c_seq (rg (st (v := (I s19.2)) (rv_move rfl) (st (v := (I (w64 (2 * s19.2)))) (rv_mul (a := 2) (b := s19.2) rfl rfl) (st (v := (I 0)) (rv_assign rfl) (st (v := (I (w64 (2 * s19.2)))) (rv_assign rfl) (w_end (q_then (c_seq ?_)))))))))))
    obtain ⟨o23, hj, h'⟩ := bind_some h
    clear h
    refine c_cut (fun e a w => e = .normal ∧ ∃ (ρ : Nat → Value) (σ : St), a = fr 63 (updL ρ [(0, (Sl Cq o23.1 Cr)), (1, (I Ed)), (2, (.func (.func 89) #[] #[(pt Ej Ek), (pt Er Es)])), (6, (I s19.2)), (7, (I o23.2))]) ∧ w = σ.w ∧ Hp S0 σ0 σ [Ch.own 0 0 (Sl Cq o23.1 Cr) o23.1, Ch.ro 0 (Sl Eg Ee Eh) Ee, Ch.bx Ei Ej Ek [(Sl Eg Ee Eh)] El Em, Ch.ro 0 (Sl En Ef Eo) Ef, Ch.bx Ep Er Es [(Sl En Ef Eo)] Et Eu] ∧ o23.1.length = s19.1.length) ?_ ?_
    ·clear h'
     rename _ = some o23 => h
     refine c_blk (wp_loopM _ h (fun s24 a w => ∃ (ρ : Nat → Value) (σ : St), a = fr 63 (updL ρ [(0, (Sl Cq s24.1 Cr)), (1, (I Ed)), (2, (.func (.func 89) #[] #[(pt Ej Ek), (pt Er Es)])), (6, (I s19.2)), (7, (I s24.2.1)), (8, (I s24.2.2))]) ∧ w = σ.w ∧ Hp S0 σ0 σ [Ch.own 0 0 (Sl Cq s24.1 Cr) s24.1, Ch.ro 0 (Sl Eg Ee Eh) Ee, Ch.bx Ei Ej Ek [(Sl Eg Ee Eh)] El Em, Ch.ro 0 (Sl En Ef Eo) Ef, Ch.bx Ep Er Es [(Sl En Ef Eo)] Et Eu] ∧ s24.1.length = s19.1.length) ⟨_, σ20, fr_join ⟨rfl, rfl, rfl, rfl, rfl, rfl, trivial⟩, rfl, H.sel' [0, 1, 2, 3, 4] rfl rfl, rfl⟩ ?_)
     clear h H
     rintro s24 a w o ⟨ρ, σ25, rfl, rfl, H, hn26⟩ h hres
     refine c_seq (c_seq (rg (st (v := (I s24.2.2)) (rv_move rfl) (st (v := (I Ed)) (rv_move rfl) (st (v := (B (decide (s24.2.2 ≤ Ed)))) (rv_leq (a := s24.2.2) (b := Ed) rfl rfl) (w_end (q_then ?_)))))))
     refine cd_cond (decide (s24.2.2 ≤ Ed)) rfl (fun hb27 => ?_) (fun hb27 => ?_)
     ·replace h := bif_t hb27 h
      refine c_skip (q_then (c_blk (c_seq (rg (st (v := (Sl Cq s24.1 Cr)) (rv_move rfl) (st (v := (I s24.2.1)) (rv_move rfl) (st (v := (I s24.2.1)) (rv_move rfl) (st (v := (I s19.2)) (rv_move rfl) (st (v := (I (w64 (s24.2.1 + s19.2)))) (rv_add (a := s24.2.1) (b := s19.2) rfl rfl) (st (v := (I s24.2.2)) (rv_move rfl) (st (v := (.func (.func 89) #[] #[(pt Ej Ek), (pt Er Es)])) (rv_move rfl) ?_)))))))))))
      obtain ⟨r28, hx29, h'⟩ := bind_some h
      clear h
      have h := h'; clear h'
      have hc30 := c_slices_symMergeCmpFunc_int__impl_ProbeOrder_1 100 (Cq := Cq) (Cr := Cr) (Do := Ei) (Dq := Ej) (Dr := Ek) (Ds := El) (Dt := Em) (Dm := Eg) (Dn := Eh) (Dw := Ep) (Dx := Er) (Dy := Es) (Dz := Et) (Ea := Eu) (Du := En) (Dv := Eo) hx29
      refine st_call (cx_call hc30 (ent_f hc30.fn rfl) hn0 (H.sel' [0, 2, 1, 4, 3, 1, 3] rfl rfl : Hp S0 σ0 _ ([_, _, _, _, _] ++ _))) wn ?_
      rintro _ σ32 ⟨_, ⟨rfl, rfl, hn31⟩, H, -⟩
      replace H : Hp _ _ _ [_, _, _, _, _] := H
      have hsl : (Sl Cq s24.1 Cr) = (Sl Cq r28 Cr) := sl_len hn31.symm
      try rw [hsl]
      try rw [hsl] at H
      clear hsl
      refine w_end (q_then (c_seq (rg (st (v := (I s24.2.2)) (rv_move rfl) (st (v := (I s24.2.2)) (rv_assign rfl) (w_end (q_then (rg (st (v := (I s24.2.2)) (rv_move rfl) (st (v := (I s19.2)) (rv_move rfl) (st (v := (I (w64 (2 * s19.2)))) (rv_mul (a := 2) (b := s19.2) rfl rfl) ?_)))))))))))
      refine st (v := (I (w64 (s24.2.2 + (w64 (2 * s19.2)))))) (rv_add (a := s24.2.2) (b := (w64 (2 * s19.2))) rfl rfl) (st (v := (I (w64 (s24.2.2 + (w64 (2 * s19.2)))))) (rv_assign rfl) (w_end (q_blk (q_then ?_))))
      obtain rfl := Option.some.inj h
      exact ⟨_, rfl, _, σ32, fr_join ⟨rfl, rfl, rfl, rfl, rfl, rfl, trivial⟩, rfl, H.sel' [0, 3, 1, 4, 2] rfl rfl, ((hn31.trans (hn26.trans (hn21.trans (hn16.trans hn12)))).trans (hn21.trans (hn16.trans hn12)).symm)⟩
     ·replace h := bif_f hb27 h
      refine c_exit (q_then_x (q_then_x (q_blk_hit ?_)))
      obtain rfl := Option.some.inj h
      obtain rfl := hres _ rfl
      exact ⟨rfl, _, σ25, fr_join ⟨rfl, rfl, rfl, rfl, rfl, trivial⟩, rfl, H.sel' [0, 1, 2, 3, 4] rfl rfl, ((hn26.trans (hn21.trans (hn16.trans hn12))).trans (hn21.trans (hn16.trans hn12)).symm)⟩
    ·clear hj
     have h := h'
     clear h' H
     rintro e a w ⟨rfl, ρ, σ33, rfl, rfl, H, hn34⟩
     refine q_then (c_seq (c_seq (rg (st (v := (I o23.2)) (rv_move rfl) (st (v := (I s19.2)) (rv_move rfl) (st (v := (I (w64 (o23.2 + s19.2)))) (rv_add (a := o23.2) (b := s19.2) rfl rfl) (st (v := (I (w64 (o23.2 + s19.2)))) (rv_assign rfl) (w_end (q_then (c_seq (rg ?_)))))))))))
     refine st (v := (I (w64 (o23.2 + s19.2)))) (rv_move rfl) (st (v := (I Ed)) (rv_move rfl) (st (v := (B (decide ((w64 (o23.2 + s19.2)) < Ed)))) (rv_lss (a := (w64 (o23.2 + s19.2))) (b := Ed) rfl rfl) (w_end (q_then ?_))))
     obtain ⟨o35, hj, h'⟩ := bind_some h
     clear h
     refine c_cut (fun e a w => e = .normal ∧ ∃ (ρ : Nat → Value) (σ : St), a = fr 63 (updL ρ [(0, (Sl Cq o35 Cr)), (1, (I Ed)), (2, (.func (.func 89) #[] #[(pt Ej Ek), (pt Er Es)])), (6, (I s19.2))]) ∧ w = σ.w ∧ Hp S0 σ0 σ [Ch.own 0 0 (Sl Cq o35 Cr) o35, Ch.ro 0 (Sl Eg Ee Eh) Ee, Ch.bx Ei Ej Ek [(Sl Eg Ee Eh)] El Em, Ch.ro 0 (Sl En Ef Eo) Ef, Ch.bx Ep Er Es [(Sl En Ef Eo)] Et Eu] ∧ o35.length = o23.1.length) ?_ ?_
     ·clear h'
      rename _ = some o35 => h
      refine cd_cond (decide ((w64 (o23.2 + s19.2)) < Ed)) rfl (fun hb36 => ?_) (fun hb36 => ?_)
      ·replace h := bif_t hb36 h
       refine rg (st (v := (Sl Cq o23.1 Cr)) (rv_move rfl) (st (v := (I o23.2)) (rv_move rfl) (st (v := (I (w64 (o23.2 + s19.2)))) (rv_move rfl) (st (v := (I Ed)) (rv_move rfl) (st (v := (.func (.func 89) #[] #[(pt Ej Ek), (pt Er Es)])) (rv_move rfl) ?_)))))
       obtain ⟨r37, hx38, h'⟩ := bind_some h
       clear h
       have h := h'; clear h'
       have hc39 := c_slices_symMergeCmpFunc_int__impl_ProbeOrder_1 100 (Cq := Cq) (Cr := Cr) (Do := Ei) (Dq := Ej) (Dr := Ek) (Ds := El) (Dt := Em) (Dm := Eg) (Dn := Eh) (Dw := Ep) (Dx := Er) (Dy := Es) (Dz := Et) (Ea := Eu) (Du := En) (Dv := Eo) hx38
       refine st_call (cx_call hc39 (ent_f hc39.fn rfl) hn0 (H.sel' [0, 2, 1, 4, 3, 1, 3] rfl rfl : Hp S0 σ0 _ ([_, _, _, _, _] ++ _))) wn ?_
       rintro _ σ41 ⟨_, ⟨rfl, rfl, hn40⟩, H, -⟩
       replace H : Hp _ _ _ [_, _, _, _, _] := H
       have hsl : (Sl Cq o23.1 Cr) = (Sl Cq r37 Cr) := sl_len hn40.symm
       try rw [hsl]
       try rw [hsl] at H
       clear hsl
       refine w_end ?_
       obtain rfl := Option.some.inj h
       exact ⟨rfl, _, σ41, fr_join ⟨rfl, rfl, rfl, rfl, trivial⟩, rfl, H.sel' [0, 3, 1, 4, 2] rfl rfl, ((hn40.trans (hn34.trans (hn21.trans (hn16.trans hn12)))).trans (hn34.trans (hn21.trans (hn16.trans hn12))).symm)⟩
      ·replace h := bif_f hb36 h
       refine c_skip ?_
       obtain rfl := Option.some.inj h
       exact ⟨rfl, _, σ33, fr_join ⟨rfl, rfl, rfl, rfl, trivial⟩, rfl, H.sel' [0, 1, 2, 3, 4] rfl rfl, rfl⟩
     ·clear hj
      have h := h'
      clear h' H
      rintro e a w ⟨rfl, ρ, σ42, rfl, rfl, H, hn43⟩
      refine q_then (rg (st (v := (I s19.2)) (rv_move rfl) (st (v := (I (w64 (s19.2 * 2)))) (rv_mul (a := s19.2) (b := 2) rfl rfl) (st (v := (I (w64 (s19.2 * 2)))) (rv_assign rfl) (w_end (q_blk (q_then ?_)))))))
      obtain rfl := Option.some.inj h
      exact ⟨_, rfl, _, σ42, fr_join ⟨rfl, rfl, rfl, rfl, trivial⟩, rfl, H.sel' [0, 1, 2, 3, 4] rfl rfl, ((hn43.trans (hn34.trans (hn21.trans (hn16.trans hn12)))).trans (hn16.trans hn12).symm)⟩
   ·replace h := bif_f hb22 h
    refine c_exit (q_then_x (q_then_x (q_blk_hit ?_)))
    obtain rfl := Option.some.inj h
    obtain rfl := hres _ rfl
    exact ⟨rfl, _, σ20, fr_join ⟨rfl, rfl, trivial⟩, rfl, H.sel' [0, 1, 2, 3, 4] rfl rfl, ((hn21.trans (hn16.trans hn12)).trans (hn16.trans hn12).symm)⟩
  ·clear hj
   have h := h'
   clear h' H
   rintro e a w ⟨rfl, ρ, σ44, rfl, rfl, H, hn45⟩
   obtain rfl := Option.some.inj h
   exact fin_end (v := (.tuple #[])) (results_ok Try.results107 res_nil rfl) ⟨rfl, rfl, (hn45.trans (hn16.trans hn12))⟩ (H.sel' [0, 2, 4] rfl rfl)

theorem c_slices_SortStableFunc_int_int__impl_ProbeOrder_1 {Bq : List Int} {Ev : List (List Int)} {Ew : List Int} {Ey : Option Addr} {Ez : Nat} {Fa : Option Addr} {Fb : Nat} {Fc Fd Fe : Nat} {Ff Fg : List Value} {Fh : Option Addr} {Fi : Nat} {Fj Fk Fl : Nat} {Fm Fn : List Value} {r : (List Int)} (h : M.slices_SortStableFunc_int_int__impl_ProbeOrder_1 Bq Ev Ew = some r) :
    Cal2 Try.prog 88 [(Sl Ey Bq Ez), (.func (.func 89) #[] #[(pt Fd Fe), (pt Fk Fl)])] [Ch.own 0 0 (Sl Ey Bq Ez) Bq, Ch.bx Fc Fd Fe [(Sl Fa Ev Fb)] Ff Fg, Ch.ro 0 (Sl Fa Ev Fb) Ev, Ch.bx Fj Fk Fl [(Sl Fh Ew Fi)] Fm Fn, Ch.ro 0 (Sl Fh Ew Fi) Ew] (fun n0 v L => v = (.tuple #[]) ∧ L = [Ch.own 0 0 (Sl Ey r Ez) r, Ch.bx Fc Fd Fe [(Sl Fa Ev Fb)] Ff Fg, Ch.bx Fj Fk Fl [(Sl Fh Ew Fi)] Fm Fn] ∧ r.length = Bq.length) := by
 refine cal2 (n := 9) Try.func88 rfl rfl rfl rfl ?_
 intro S0 σ0 n0 hn0 H
 unfold M.slices_SortStableFunc_int_int__impl_ProbeOrder_1 at h
 refine rg (st (v := (Sl Ey Bq Ez)) (rv_move rfl) (st (v := (Sl Ey Bq Ez)) (rv_move rfl) (st (v := (I (Bq.length : Int))) (rv_len Try.underlying23 rfl) (st (v := (.func (.func 89) #[] #[(pt Fd Fe), (pt Fk Fl)])) (rv_move rfl) ?_))))
 obtain ⟨r1, hx2, h'⟩ := bind_some h
 clear h
 have h := h'; clear h'
 have hc3 := c_slices_stableCmpFunc_int__impl_ProbeOrder_1 (Cq := Ey) (Cr := Ez) (Ei := Fc) (Ej := Fd) (Ek := Fe) (El := Ff) (Em := Fg) (Eg := Fa) (Eh := Fb) (Ep := Fj) (Er := Fk) (Es := Fl) (Et := Fm) (Eu := Fn) (En := Fh) (Eo := Fi) hx2
 refine st_call (cx_call hc3 (ent_f hc3.fn rfl) hn0 (H.sel' [0, 1, 2, 3, 4, 2, 4] rfl rfl : Hp S0 σ0 _ ([_, _, _, _, _] ++ _))) wn ?_
 rintro _ σ5 ⟨_, ⟨rfl, rfl, hn4⟩, H, -⟩
 replace H : Hp _ _ _ [_, _, _, _, _] := H
 have hsl : (Sl Ey Bq Ez) = (Sl Ey r1 Ez) := sl_len hn4.symm
 try rw [hsl]
 try rw [hsl] at H
 clear hsl
 refine w_end ?_
 obtain rfl := Option.some.inj h
 exact fin_end (v := (.tuple #[])) (results_ok Try.results88 res_nil rfl) ⟨rfl, rfl, hn4⟩ (H.sel' [0, 1, 2] rfl rfl)

theorem c_impl_ProbeOrder {Bf : List (List Int)} {Bg : List Int} {Bh : Int} {Bi : Option Addr} {Bj : Nat} {Bk : Option Addr} {Bl : Nat} {r : (List Int)} (h : M.impl_ProbeOrder Bf Bg Bh = some r) :
    Cal2 Try.prog 51 [(Sl Bi Bf Bj), (Sl Bk Bg Bl), (I Bh)] [Ch.ro 0 (Sl Bi Bf Bj) Bf, Ch.ro 0 (Sl Bk Bg Bl) Bg] (fun n0 v L => ∃ (az1 : Option Addr), ∃ (cz2 : Nat), v = (Sl az1 r cz2) ∧ L = [Ch.own 0 n0 (Sl az1 r cz2) r]) := by
 refine cal2 (n := 36) Try.func51 rfl rfl rfl rfl ?_
 intro S0 σ0 n0 hn0 H
 unfold M.impl_ProbeOrder at h
 refine c_seq (rg (st_ex (ex_box (cs := [(Sl Bi Bf Bj)]) H hn0 rfl rfl) wn ?_))
 rintro _ σ2 ⟨b1, rfl, H, -⟩
 refine st_ex (ex_box (cs := [(Sl Bk Bg Bl)]) H hn0 rfl rfl) wn ?_
 rintro _ σ4 ⟨b3, rfl, H, -⟩
 refine st (v := (.slice none 0 0)) (rv_assign rfl) (w_end (q_then (c_seq (c_seq (rg ?_)))))
 have hc5 := H.cell (u := (Sl Bi Bf Bj)) (o' := 0) 1 0 rfl rfl rfl
 refine st (v := (Sl Bi Bf Bj)) (rv_load1 Try.underlying41 rfl rfl hc5) ?_
 have hc6 := H.cell (u := (Sl Bk Bg Bl)) (o' := 0) 0 0 rfl rfl rfl
 refine st (v := (Sl Bk Bg Bl)) (rv_load1 Try.underlying23 rfl rfl hc6) (st (v := (I Bh)) (rv_move rfl) ?_)
 obtain ⟨r7, hx8, h'⟩ := bind_some h
 clear h
 have h := h'; clear h'
 have hc9 := c_impl_validProbe (Bi := Bi) (Bj := Bj) (Bk := Bk) (Bl := Bl) hx8
 refine st_call (cx_call hc9 (ent_f hc9.fn rfl) hn0 (H.sel' [2, 3, 0, 1, 2, 3] rfl rfl : Hp S0 σ0 _ ([_, _] ++ _))) wn ?_
 rintro _ σ10 ⟨_, ⟨rfl, rfl⟩, H, -⟩
 replace H : Hp _ _ _ [_, _, _, _] := H
 refine st (v := (B (!r7))) (rv_not rfl) (w_end (q_then ?_))
 refine cd_cond (!r7) rfl (fun hb11 => ?_) (fun hb11 => ?_)
 ·replace h := bif_t hb11 h
  refine c_seq (rg (st (v := (.slice none 0 0)) (rv_assign rfl) (w_end (q_then (c_ret (q_then_r ?_))))))
  replace H := H.nilOwn Int 0 n0
  obtain rfl := Option.some.inj h
  exact fin_ret (v := (.slice none 0 0)) (results_ok Try.results51 (res_tmp (v := (.slice none 0 0)) rfl res_nil) rfl) ⟨none, 0, rfl, rfl⟩ (H.sel' [0] rfl rfl)
 ·replace h := bif_f hb11 h
  refine c_skip (q_then (c_seq (rg ?_)))
  have hc12 := H.cell (u := (Sl Bi Bf Bj)) (o' := 0) 1 0 rfl rfl rfl
  refine st (v := (Sl Bi Bf Bj)) (rv_load1 Try.underlying41 rfl rfl hc12) (st (v := (I (Bf.length : Int))) (rv_len Try.underlying41 rfl) ?_)
  obtain ⟨xs13, hx14, h'⟩ := bind_some h
  clear h
  have h := h'; clear h'
  refine st_ex (ex_make (el := n0) (z0 := (0 : Int)) (zs := [(I 0)]) H hn0 Try.underlying23 ti3 rfl rfl rfl (by decide) hx14 rfl rfl) wn ?_
  rintro _ σ18 ⟨b15, c16, rfl, ht17, H, -⟩
  replace ht17 := ht17.trans (gmake_len hx14).symm
  refine st (v := (Sl (some ⟨b15, 0, none⟩) xs13 c16)) (rv_assign rfl) (w_end (q_then (c_seq (c_seq (rg (st (v := (Sl (some ⟨b15, 0, none⟩) xs13 c16)) (rv_move rfl) (st (v := (I (xs13.length : Int))) (rv_len Try.underlying23 rfl) (st (v := (I 0)) (rv_move rfl) (w_end (q_then ?_))))))))))
  obtain ⟨o19, hj, h'⟩ := bind_some h
  clear h
  refine c_cut (fun e a w => e = .normal ∧ ∃ (ρ : Nat → Value) (σ : St), a = fr 36 (updL ρ [(2, (I Bh)), (3, (pt b1 0)), (4, (pt b3 0)), (7, (Sl (some ⟨b15, 0, none⟩) o19 c16))]) ∧ w = σ.w ∧ Hp S0 σ0 σ [Ch.ro 0 (Sl Bi Bf Bj) Bf, Ch.bx n0 b1 0 [(Sl Bi Bf Bj)] [] [], Ch.ro 0 (Sl Bk Bg Bl) Bg, Ch.bx n0 b3 0 [(Sl Bk Bg Bl)] [] [], Ch.own n0 n0 (Sl (some ⟨b15, 0, none⟩) o19 c16) o19] ∧ c16 = o19.length ∧ o19.length = xs13.length) ?_ ?_
  ·clear h'
   rename _ = some o19 => h
   refine c_blk (wp_loopM _ h (fun s20 a w => ∃ (ρ : Nat → Value) (σ : St), a = fr 36 (updL ρ [(2, (I Bh)), (3, (pt b1 0)), (4, (pt b3 0)), (7, (Sl (some ⟨b15, 0, none⟩) s20.1 c16)), (18, (I (xs13.length : Int))), (19, (I s20.2))]) ∧ w = σ.w ∧ Hp S0 σ0 σ [Ch.ro 0 (Sl Bi Bf Bj) Bf, Ch.bx n0 b1 0 [(Sl Bi Bf Bj)] [] [], Ch.ro 0 (Sl Bk Bg Bl) Bg, Ch.bx n0 b3 0 [(Sl Bk Bg Bl)] [] [], Ch.own n0 n0 (Sl (some ⟨b15, 0, none⟩) s20.1 c16) s20.1] ∧ c16 = s20.1.length ∧ s20.1.length = xs13.length) ⟨_, σ18, fr_join ⟨rfl, rfl, rfl, rfl, rfl, rfl, trivial⟩, rfl, H.sel' [3, 2, 4, 1, 0] rfl rfl, ht17, rfl⟩ ?_)
   clear h H
   rintro s20 a w o ⟨ρ, σ21, rfl, rfl, H, ht22, hn23⟩ h hres
   refine c_seq (rg (st (v := (B (decide (s20.2 < (xs13.length : Int))))) (rv_lss (a := s20.2) (b := (xs13.length : Int)) rfl rfl) (w_end (q_then (c_seq ?_)))))
   refine cd_cond (decide (s20.2 < (xs13.length : Int))) rfl (fun hb24 => ?_) (fun hb24 => ?_)
   ·replace h := bif_t hb24 h
    refine c_skip (q_then (c_seq (c_blk (c_seq (rg (st (v := (I s20.2)) (rv_move rfl) (st (v := (I s20.2)) (rv_assign rfl) (w_end (q_then (rg (st (v := (Sl (some ⟨b15, 0, none⟩) s20.1 c16)) (rv_move rfl) ?_)))))))))))
    refine st (v := (I s20.2)) (rv_move rfl) (st (v := (I s20.2)) (rv_move rfl) ?_)
    obtain ⟨x25, hx26, h'⟩ := bind_some h
    clear h
    have h := h'; clear h'
    obtain ⟨b28, o29, hi27, -⟩ := (H.own 4 rfl).ix hx26
    refine st (v := (pt b28 o29)) (rv_ix Try.underlying23 ti3 rfl rfl hi27) ?_
    refine st_exS (ex_store_own (e' := s20.2) (vs := [(I s20.2)]) (k := 0) H (i := 4) rfl ti3 hx26 hi27 rfl rfl rfl rfl rfl (Nat.le_of_ble_eq_true rfl) (by simp [plain]) (by rintro _ rfl; exact rfl)) wn ?_
    rintro σ30 ⟨H, -⟩
    have hsl : (Sl (some ⟨b15, 0, none⟩) s20.1 c16) = (Sl (some ⟨b15, 0, none⟩) (s20.1.set s20.2.toNat s20.2) c16) := sl_len List.length_set.symm
    rw [hsl]; rw [hsl] at H; clear hsl
    refine w_end (q_blk (q_then (rg (st (v := (I (w64 (s20.2 + 1)))) (rv_add (a := s20.2) (b := 1) rfl rfl) (st (v := (I (w64 (s20.2 + 1)))) (rv_move rfl) (w_end (q_then ?_)))))))
    obtain rfl := Option.some.inj h
    exact ⟨_, rfl, _, σ30, fr_join ⟨rfl, rfl, rfl, rfl, rfl, rfl, trivial⟩, rfl, H.sel' [1, 2, 3, 4, 0] rfl rfl, (ht22.trans List.length_set.symm), (List.length_set.trans hn23)⟩
   ·replace h := bif_f hb24 h
    refine c_exit (q_then_x (q_then_x (q_blk_hit ?_)))
    obtain rfl := Option.some.inj h
    obtain rfl := hres _ rfl
    exact ⟨rfl, _, σ21, fr_join ⟨rfl, rfl, rfl, rfl, trivial⟩, rfl, H.sel' [0, 1, 2, 3, 4] rfl rfl, ht22, hn23⟩
  ·clear hj
   have h := h'
   clear h' H
   rintro e a w ⟨rfl, ρ, σ31, rfl, rfl, H, ht32, hn33⟩
   refine q_then (c_seq (rg (st (v := (Sl (some ⟨b15, 0, none⟩) o19 c16)) (rv_move rfl) (st (v := (.func (.func 89) #[] #[(pt b1 0), (pt b3 0)])) (rv_makeFunc (vs := [(pt b1 0), (pt b3 0)]) rfl) ?_))))
   replace H := H.ownLow 4 0 0 rfl (Nat.zero_le _) (Nat.zero_le _)
   obtain ⟨r34, hx35, h'⟩ := bind_some h
   clear h
   have h := h'; clear h'
   have hc36 := c_slices_SortStableFunc_int_int__impl_ProbeOrder_1 (Ey := (some ⟨b15, 0, none⟩)) (Ez := c16) (Fc := n0) (Fd := b1) (Fe := 0) (Ff := []) (Fg := []) (Fa := Bi) (Fb := Bj) (Fj := n0) (Fk := b3) (Fl := 0) (Fm := []) (Fn := []) (Fh := Bk) (Fi := Bl) hx35
   refine st_call (cx_call hc36 (ent_f hc36.fn rfl) hn0 (H.sel' [0, 2, 1, 4, 3, 1, 3] rfl rfl : Hp S0 σ0 _ ([_, _, _, _, _] ++ _))) wn ?_
   rintro _ σ38 ⟨_, ⟨rfl, rfl, hn37⟩, H, -⟩
   replace H : Hp _ _ _ [_, _, _, _, _] := H
   have hsl : (Sl (some ⟨b15, 0, none⟩) o19 c16) = (Sl (some ⟨b15, 0, none⟩) r34 c16) := sl_len hn37.symm
   try rw [hsl]
   try rw [hsl] at H
   clear hsl
   refine w_end (q_then (c_seq (rg (st (v := (Sl (some ⟨b15, 0, none⟩) r34 c16)) (rv_move rfl) (st (v := (I Bh)) (rv_move rfl) (st (v := (Sl (some ⟨b15, 0, none⟩) r34 c16)) (rv_move rfl) (st (v := (I (r34.length : Int))) (rv_len Try.underlying23 rfl) (st (v := (I (min Bh (r34.length : Int)))) (rv_min rfl rfl) ?_))))))))
   obtain ⟨xs39, hx40, h'⟩ := bind_some h
   clear h
   have h := h'; clear h'
   obtain ⟨a41, c42, hs43, hR44, hb45⟩ := (H.own 0 rfl).slice hx40
   replace H := (H.front (i := 0) rfl).turn (d := Ch.own 0 0 (Sl a41 xs39 c42) xs39) (fun _ => hR44) hb45; clear hR44 hb45
   refine st (v := (Sl a41 xs39 c42)) (rv_slice_h Try.underlying23 ti3 hs43 rfl rfl) (st (v := (Sl a41 xs39 c42)) (rv_assign rfl) (w_end (q_then (c_ret ?_))))
   replace H := H.ownSc 0 0 n0 rfl (Nat.le_refl _)
   obtain rfl := Option.some.inj h
   exact fin_ret (v := (Sl a41 xs39 c42)) (results_ok Try.results51 (res_tmp (v := (Sl a41 xs39 c42)) rfl res_nil) rfl) ⟨a41, c42, rfl, rfl⟩ (H.sel' [0] rfl rfl)

end Go.Vs
